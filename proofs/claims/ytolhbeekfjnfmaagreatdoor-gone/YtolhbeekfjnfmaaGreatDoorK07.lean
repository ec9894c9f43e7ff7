import Derived.Laws.StructEq
import Derived.Test.YtolhbeekfjnfmaaGreatDoorK06
namespace Go.Proofs.YtolhbeekfjnfmaaGreatDoor
open Go.RowKit
def fptr (g:Ft):Value:=.pointer (some ⟨g.blk,0,none⟩)
def tokEnc (t:Tok):List Value:=((t.map fptr) ++ List.replicate 4 (Value.pointer none)).take 4
theorem tokEnc_len (t:Tok):(tokEnc t).length=4:=by
 unfold tokEnc
 rw [List.length_take,List.length_append,List.length_replicate]
 omega
def tokV (t:Tok):Value:=.agg (tokEnc t).toArray
theorem tokEnc_get {t:Tok} {i:Nat} {g:Ft} (h:t[i]?=some g) (hi:i < 4):(tokEnc t)[i]?=some (fptr g):=by
 unfold tokEnc
 have hl:=(List.getElem?_eq_some_iff.1 h).1
 rw [List.getElem?_take_of_lt hi,List.getElem?_append_left (by simpa using hl),List.getElem?_map,h]
 rfl
theorem four_of {α:Type} {l:List α} (h:l.length=4):∃ a b c d,l=[a,b,c,d]:=by
 match l,h with
 | [a,b,c,d],_=>exact ⟨a,b,c,d,rfl⟩
theorem tokEnc_ptr (t:Tok):∀ c∈tokEnc t,∃ p,c=.pointer p:=by
 intro c hc
 unfold tokEnc at hc
 have h1:=List.mem_of_mem_take hc
 rcases List.mem_append.1 h1 with h | h
 ·obtain ⟨g,_,rfl⟩:=List.mem_map.1 h
  exact ⟨_,rfl⟩
 ·rw [List.eq_of_mem_replicate h]
  exact ⟨_,rfl⟩
theorem tokEnc_one (t:Tok):∀ c∈tokEnc t,c.oneCell'=true:=by
 intro c hc
 obtain ⟨p,rfl⟩:=tokEnc_ptr t c hc
 rfl
theorem tok_four (t:Tok):∃ a b c d:Option Addr,tokEnc t=[.pointer a,.pointer b,.pointer c,.pointer d]:=by
 obtain ⟨a,b,c,d,h⟩:=four_of (tokEnc_len t)
 have hp:=tokEnc_ptr t
 rw [h] at hp
 obtain ⟨pa,rfl⟩:=hp a (by simp)
 obtain ⟨pb,rfl⟩:=hp b (by simp)
 obtain ⟨pc,rfl⟩:=hp c (by simp)
 obtain ⟨pd,rfl⟩:=hp d (by simp)
 exact ⟨pa,pb,pc,pd,h⟩
def FtAt (U:Nat→Nat) (g:Ft) (w:World):Prop:=
 U g.blk=1∧g.f.vals.length≤4∧∃ v,w.heap[g.blk]?=some (.cells #[.int .i64 g.f.kind,v,.int .i64 g.id] 93 (0,0))∧TRow U 1 3 1 ienc v g.f.vals w
def lenc (l:Lnk):List Value:=[.int .i64 l.place,.int .u8 l.at'.letter.toNat,.int .i64 l.at'.fact,.int .i64 l.at'.place]
theorem lenc_len (l:Lnk):(lenc l).length=4:=rfl
def senc (s:Site):List Value:=[.int .u8 s.letter.toNat,.int .i64 s.fact,.int .i64 s.place]
theorem senc_len (s:Site):(senc s).length=3:=rfl
def tmenc (t:Sv.Term):List Value:=[.int .i64 t.sort,.int .u8 t.letter.toNat,.int .i64 t.value]
theorem tmenc_len (t:Sv.Term):(tmenc t).length=3:=rfl
theorem FtAt.keep {U U':Nat→Nat} {g:Ft} {w w':World} {S:Nat→Prop} (h:FtAt U g w) (hg:GrS S w w') (hs:∀ k,U k=1→¬ S k) (ho:∀ k,k < w.heap.size→U k=1→U' k=1):FtAt U' g w':=by
 obtain ⟨h1,h2,v,h3,h4⟩:=h
 exact ⟨ho _ (row_lt h3) h1,h2,v,hg.blk h3 (hs _ h1),h4.keep2 hg hs ho⟩
theorem FtAt.gr {U:Nat→Nat} {g:Ft} {w w':World} (h:FtAt U g w) (hg:w.grownBy w' none):FtAt U g w':=h.keep (S:=fun _=>False) (GrS.of hg (by simp)) (by simp) (fun _ _ h=>h)
structure CdAt (U:Nat→Nat) (b o:Nat) (c:Sv.Cond) (ls:List Lnk) (w:World):Prop where
 kind:w.cell? ⟨b,o,none⟩=some (.int .i64 c.kind)
 terms:∃ v,w.cell? ⟨b,o+1,none⟩=some v∧TRow U 1 258 3 tmenc v c.terms w
 links:∃ v,w.cell? ⟨b,o+2,none⟩=some v∧TRow U 1 293 4 lenc v ls w
 short:c.terms.length≤4
theorem CdAt.gr {U:Nat→Nat} {b o:Nat} {c:Sv.Cond} {ls:List Lnk} {w w':World} (h:CdAt U b o c ls w) (hg:w.grownBy w' none):CdAt U b o c ls w':=by
 obtain ⟨v,h1,h2⟩:=h.terms
 obtain ⟨u,h3,h4⟩:=h.links
 exact ⟨hg.cell h.kind (by simp),⟨v,hg.cell h1 (by simp),h2.1.gr hg,h2.2⟩,⟨u,hg.cell h3 (by simp),h4.1.gr hg,h4.2⟩,h.short⟩
theorem fitL_drop {ls:List Lnk} {k:Nat} {l:Lnk} (h:ls[k]?=some l) (t:Tok) (f:Sv.Fact):fitL (ls.drop k) t f=((f.vals.getD l.place 0 == t.val l.at') && fitL (ls.drop (k+1)) t f):=by
 unfold fitL
 rw [drop_get h,List.all_cons]
set_option maxRecDepth 100000 in
set_option maxHeartbeats 1000000 in
theorem fitsWith_w (U:Nat→Nat) (b:Nat) (c:Sv.Cond) (ls:List Lnk) (t:Tok) (f:Ft) (w:World) (hc:CdAt U b 0 c ls w) (hf:FtAt U f w) (ht:∀ g∈t,FtAt U g w) (ht4:t.length≤4)
  (hl:∀ l∈ls,l.place < f.f.vals.length∧∃ g,t[l.at'.fact]?=some g∧l.at'.place < g.f.vals.length) :
  Calls Tryz.prog 139 #[.pointer (some ⟨b,0,none⟩),tokV t,fptr f] w fun e w'=>e=.returned (.bool (fitL ls t f.f))∧w.grownBy w' none:=by
 obtain ⟨lv,hlv,hlr⟩:=hc.links
 obtain ⟨la,lc,rfl⟩:=hlr.1.slice
 have hlen:=hlr.1.le
 unfold maxLen at hlen
 obtain ⟨pa,pb,pc,pd,hT⟩:=tok_four t
 have eT:tokV t=.agg #[.pointer pa,.pointer pb,.pointer pc,.pointer pd]:=by unfold tokV; rw [hT]
 rw [eT]
 obtain ⟨R,hR⟩:∃ R,fitL ls t f.f=R:=⟨_,rfl⟩
 rw [hR]
 have HR:=hide hR
 have HT:=hide hT
 have HL:=hide hl
 have HF:=hide hf
 have HTT:=hide ht
 clear hR hl hf ht eT hT
 unfold fptr
 have hgA:=World.grownBy_alloc w (.cells #[.pointer pa,.pointer pb,.pointer pc,.pointer pd] 139) none
 have hB:(w.alloc (.cells #[.pointer pa,.pointer pb,.pointer pc,.pointer pd] 139)).heap[w.heap.size]?=some (.cells #[.pointer pa,.pointer pb,.pointer pc,.pointer pd] 139 (0,0)):=heap_alloc_new _ _
 rw [Nat.zero_add] at hlv
 have hlv1:=hgA.cell hlv (by simp)
 go_enter Tryz.func139,Tryz.ntmps139
 go_wp2
 clear hlv1
 go_loopw [14] (fun x w'=>∃ k:Nat,k≤ls.length∧x=.int .i64 k∧fitL (ls.drop k) t f.f=R∧w.grownBy w' none∧w'.heap[w.heap.size]?=some (.cells #[.pointer pa,.pointer pb,.pointer pc,.pointer pd] 139 (0,0))) (fun x _=>ls.length - (intOf x).toNat)
 case atStart=>exact ⟨0,Nat.zero_le _,rfl,unhide HR,hgA,hB⟩
 case round=>
  clear HR hgA hB
  obtain ⟨k,hk,rfl,hr,hg,hB⟩:=hrel
  by_cases hlt:k < ls.length
  ·have hd:decide (k < ls.length)=true:=by simpa using hlt
   obtain ⟨l,hl⟩:∃ l,ls[k]?=some l:=⟨ls[k],List.getElem?_eq_getElem hlt⟩
   rw [fitL_drop hl] at hr
   obtain ⟨g0,cap',hv,hcl⟩:=(hlr.1.gr hg).cells hl
   simp only [Value.slice.injEq,true_and] at hv
   obtain ⟨rfl,rfl⟩:=hv
   have c0:wr.cell? ⟨g0,k * 4,none⟩=some (.int .i64 l.place):=hcl 0 (by omega)
   have c1:wr.cell? ⟨g0,k * 4+1,none⟩=some (.int .u8 l.at'.letter.toNat):=hcl 1 (by omega)
   have c2:wr.cell? ⟨g0,k * 4+2,none⟩=some (.int .i64 l.at'.fact):=hcl 2 (by omega)
   have c3:wr.cell? ⟨g0,k * 4+3,none⟩=some (.int .i64 l.at'.place):=hcl 3 (by omega)
   obtain ⟨hp,g,hg1,hg2⟩:=unhide HL l (List.mem_of_getElem? hl)
   have hFx:=(unhide HF).gr hg
   have hGx:=(unhide HTT g (List.mem_of_getElem? hg1)).gr hg
   obtain ⟨_,f4,fv,fb,fr⟩:=hFx
   obtain ⟨_,g4,gv,gb,gr⟩:=hGx
   obtain ⟨fa,fc,rfl⟩:=fr.1.slice
   obtain ⟨ga,gc,rfl⟩:=gr.1.slice
   obtain ⟨x,hx⟩:∃ x,f.f.vals[l.place]?=some x:=⟨_,List.getElem?_eq_getElem hp⟩
   obtain ⟨y,hy⟩:∃ y,g.f.vals[l.at'.place]?=some y:=⟨_,List.getElem?_eq_getElem hg2⟩
   obtain ⟨fg,fc',hfv,hfx⟩:=fr.1.cells hx
   obtain ⟨gg,gc',hgv,hgx⟩:=gr.1.cells hy
   simp only [Value.slice.injEq,true_and] at hfv hgv
   obtain ⟨rfl,rfl⟩:=hfv
   obtain ⟨rfl,rfl⟩:=hgv
   have x0:wr.cell? ⟨fg,l.place,none⟩=some (.int .i64 x):=by have:=hfx 0 (by omega); simpa [ienc] using this
   have y0:wr.cell? ⟨gg,l.at'.place,none⟩=some (.int .i64 y):=by have:=hgx 0 (by omega); simpa [ienc] using this
   have hfl:=(List.getElem?_eq_some_iff.1 hg1).1
   have tq:wr.cell? ⟨w.heap.size,l.at'.fact,none⟩=some (.pointer (some ⟨g.blk,0,none⟩)):=by
    have:=tokEnc_get hg1 (by omega)
    rw [unhide HT] at this
    simp [World.cell?,hB]
    simpa [fptr] using this
   have f1:wr.cell? ⟨f.blk,1,none⟩=some (.slice (some ⟨fg,0,none⟩) f.f.vals.length fc):=by simp [World.cell?,fb]
   have g1:wr.cell? ⟨g.blk,1,none⟩=some (.slice (some ⟨gg,0,none⟩) g.f.vals.length gc):=by simp [World.cell?,gb]
   have ex:f.f.vals.getD l.place 0=x:=by rw [List.getD_eq_getElem?_getD,hx]; rfl
   have ey:t.val l.at'=y:=by unfold Tok.val; rw [hg1]; simp [List.getD_eq_getElem?_getD,hy]
   rw [ex,ey] at hr
   have HR:=hide hr
   have HB:=hide hB
   have hl4:l.at'.fact < 4:=by omega
   clear hr hcl hl fb gb fr gr hfx hgx hx hy ex ey hg1 hB
   have hgL:=World.grownBy_alloc wr (.cells #[.int .i64 l.place,.int .u8 l.at'.letter.toNat,.int .i64 l.at'.fact,.int .i64 l.at'.place] 293) none
   have f1':=hgL.cell f1 (by simp)
   have g1':=hgL.cell g1 (by simp)
   have x0':=hgL.cell x0 (by simp)
   have y0':=hgL.cell y0 (by simp)
   have tq':=hgL.cell tq (by simp)
   have hg':=gr_trans hg hgL
   clear f1 g1 x0 y0 tq hlr hlv
   have HG:=hide hg'
   have HGL:=hide hgL
   clear hg' hgL hg
   by_cases he:x=y
   ·have hne:(x != y)=false:=by simpa using he
    have hr:=unhide HR
    rw [show (x == y)=true from by simpa using he,Bool.true_and] at hr
    have HR2:=hide hr
    clear hr HR he
    go_wp2
    go_quiet (fail)
    go_wp2
    go_roundw
    case rel=>exact ⟨k+1,by omega,by go_num,unhide HR2,gr_trans (unhide HG) (gr_drewN _ _ _),by rw [(gr_trans (unhide HGL) (gr_drewN _ _ _)).block _ (row_lt (unhide HB)) (by simp)]; exact unhide HB⟩
    case measure=>simp [intOf]; omega
   ·have hne:(x != y)=true:=by simpa using he
    have hr:=unhide HR
    rw [show (x == y)=false from by simpa using he,Bool.false_and] at hr
    subst hr
    clear HR he
    go_wp2
    go_quiet (fail)
    go_wp2
    go_ret
    exact ⟨rfl,gr_trans (unhide HG) (gr_drewN _ _ _)⟩
  ·have hd:decide (k < ls.length)=false:=by simpa using hlt
   have e:ls.drop k=[]:=List.drop_of_length_le (by omega)
   rw [e] at hr
   have hr2:true=R:=hr
   subst hr2
   go_wp2
   go_ret
   exact ⟨rfl,hg⟩
theorem tmenc_get {ts:List Sv.Term} {base:Nat} {v:Value} {w:World} (h:RowAt 258 3 tmenc base v ts w) {k:Nat} {t:Sv.Term} (hk:ts[k]?=some t) :
  ∃ g cap,v=.slice (some ⟨g,0,none⟩) ts.length cap∧w.cell? ⟨g,k * 3,none⟩=some (.int .i64 t.sort)∧w.cell? ⟨g,k * 3+1,none⟩=some (.int .u8 t.letter.toNat)∧w.cell? ⟨g,k * 3+2,none⟩=some (.int .i64 t.value):=by
 obtain ⟨g,cap,h1,h2⟩:=h.cells hk
 exact ⟨g,cap,h1,h2 0 (by omega),h2 1 (by omega),h2 2 (by omega)⟩
theorem Sv.eqb_dec (a b:Sv.Term):Sv.Term.eqb a b=(((a.sort:Int) == (b.sort:Int)) && ((a.letter.toNat:Int) == (b.letter.toNat:Int)) && (a.value == b.value)):=by
 unfold Sv.Term.eqb
 rw [Bool.eq_iff_iff]
 simp only [Bool.and_eq_true,beq_iff_eq]
 constructor
 ·rintro ⟨⟨h1,h2⟩,h3⟩
  exact ⟨⟨by omega,by rw [h2]⟩,h3⟩
 ·rintro ⟨⟨h1,h2⟩,h3⟩
  exact ⟨⟨by omega,UInt8.toNat_inj.1 (by omega)⟩,h3⟩
theorem Tryz.eqTm (x y:Sv.Term) (w:World):Sem.run Tryz.prog (binOp .eql 258 (.agg #[.int .i64 x.sort,.int .u8 x.letter.toNat,.int .i64 x.value]) (.agg #[.int .i64 y.sort,.int .u8 y.letter.toNat,.int .i64 y.value])) w=.ok (.bool (Sv.Term.eqb x y)) w:=by
 have hS:Tryz.prog.underlying 258=some (.struct (Tryz.prog.fieldsOf 258)):=by kernel_rfl
 have hp:Tryz.prog.stoodInHeld 258=false:=by kernel_rfl
 rw [run_eql_struct,show (10000:Nat)=9999+1 from rfl,run_equalIn_agg w 9999 258 _ _ hS hp]
 simp only [Program.fieldsOf,Tryz.underlying258]
 go_simp
 rw [Sv.eqb_dec]
 by_cases h1:(x.sort:Int)=(y.sort:Int)<;>by_cases h2:(x.letter.toNat:Int)=(y.letter.toNat:Int)<;>by_cases h3:x.value=y.value<;>simp [h1,h2,h3]
theorem Tryz.gdTm (op:BinOp) (a b:Operand) (x y:Array Value) (w:World):Sem.run Tryz.prog (eqGuard op 258 a b (.agg x) (.agg y)) w=.ok () w:=run_eqGuard_agg w op 258 a b x y (by kernel_rfl)
def Sv.tFrom (k:Nat) (ts:List Sv.Term) (t:Sv.Term):Int:=if ts.any (fun u=>Sv.Term.eqb u t)=true then ((k+Sv.tIdx ts t:Nat):Int) else -1
theorem Sv.eqb_comm (a b:Sv.Term):Sv.Term.eqb a b=Sv.Term.eqb b a:=by
 unfold Sv.Term.eqb
 rw [Bool.eq_iff_iff]
 simp only [Bool.and_eq_true,beq_iff_eq]
 constructor
 ·rintro ⟨⟨h1,h2⟩,h3⟩; exact ⟨⟨h1.symm,h2.symm⟩,h3.symm⟩
 ·rintro ⟨⟨h1,h2⟩,h3⟩; exact ⟨⟨h1.symm,h2.symm⟩,h3.symm⟩
theorem Sv.tFrom_yes {k:Nat} {u:Sv.Term} {ts:List Sv.Term} {t:Sv.Term} (h:Sv.Term.eqb t u=true):Sv.tFrom k (u :: ts) t=k:=by
 rw [Sv.eqb_comm] at h
 unfold Sv.tFrom
 rw [if_pos (by simp [h])]
 unfold Sv.tIdx
 rw [if_pos h]
 simp
theorem Sv.tFrom_no {k:Nat} {u:Sv.Term} {ts:List Sv.Term} {t:Sv.Term} (h:¬ Sv.Term.eqb t u=true):Sv.tFrom k (u :: ts) t=Sv.tFrom (k+1) ts t:=by
 rw [Sv.eqb_comm] at h
 unfold Sv.tFrom
 have e:Sv.tIdx (u :: ts) t=Sv.tIdx ts t+1:=by rw [Sv.tIdx,if_neg h]
 rw [e,List.any_cons,Bool.eq_false_iff.2 h,Bool.false_or]
 split
 ·congr 1; omega
 ·rfl
set_option maxRecDepth 100000 in
set_option maxHeartbeats 1000000 in
theorem idxTm_w (v:Value) (ts:List Sv.Term) (t:Sv.Term) (w:World) (base:Nat) (h:RowAt 258 3 tmenc base v ts w) :
  Calls Tryz.prog 204 #[v,.agg #[.int .i64 t.sort,.int .u8 t.letter.toNat,.int .i64 t.value]] w fun e w'=>e=.returned (.int .i64 (Sv.tFrom 0 ts t))∧w.grownBy w' none:=by
 obtain ⟨ao,cap,rfl⟩:=h.slice
 have hlen:=h.le
 unfold maxLen at hlen
 obtain ⟨R,hR⟩:∃ R,Sv.tFrom 0 ts t=R:=⟨_,rfl⟩
 rw [hR]
 have HR:=hide hR
 clear hR
 have hgA:=World.grownBy_alloc w (.cells #[.int .i64 t.sort,.int .u8 t.letter.toNat,.int .i64 t.value] 258) none
 have hB:(w.alloc (.cells #[.int .i64 t.sort,.int .u8 t.letter.toNat,.int .i64 t.value] 258)).heap[w.heap.size]?=some (.cells #[.int .i64 t.sort,.int .u8 t.letter.toNat,.int .i64 t.value] 258 (0,0)):=heap_alloc_new _ _
 go_enter Tryz.func204,Tryz.ntmps204
 go_wp2
 go_loopw [8] (fun x w'=>∃ k:Nat,k≤ts.length∧x=.int .i64 k∧Sv.tFrom k (ts.drop k) t=R∧w.grownBy w' none∧w'.heap[w.heap.size]?=some (.cells #[.int .i64 t.sort,.int .u8 t.letter.toNat,.int .i64 t.value] 258 (0,0))) (fun x _=>ts.length - (intOf x).toNat)
 case atStart=>exact ⟨0,Nat.zero_le _,rfl,unhide HR,hgA,hB⟩
 case round=>
  clear HR hgA hB
  obtain ⟨k,hk,rfl,hr,hg,hB⟩:=hrel
  have b0:wr.cell? ⟨w.heap.size,0,none⟩=some (.int .i64 t.sort):=by simp [World.cell?,hB]
  have b1:wr.cell? ⟨w.heap.size,1,none⟩=some (.int .u8 t.letter.toNat):=by simp [World.cell?,hB]
  have b2:wr.cell? ⟨w.heap.size,2,none⟩=some (.int .i64 t.value):=by simp [World.cell?,hB]
  have HB:=hide hB
  clear hB
  by_cases hlt:k < ts.length
  ·have hd:decide (k < ts.length)=true:=by simpa using hlt
   obtain ⟨u,hu⟩:∃ u,ts[k]?=some u:=⟨ts[k],List.getElem?_eq_getElem hlt⟩
   rw [drop_get hu] at hr
   obtain ⟨g,cap',hv,c0,c1,c2⟩:=tmenc_get (h.gr hg) hu
   simp only [Value.slice.injEq,true_and] at hv
   obtain ⟨rfl,rfl⟩:=hv
   have HR:=hide hr
   clear hr hu
   have q1:=Tryz.eqTm t u
   have q2:=Tryz.gdTm
   by_cases he:Sv.Term.eqb t u=true
   ·have hr:=unhide HR
    rw [Sv.tFrom_yes he] at hr
    subst hr
    rw [he] at q1
    clear HR he
    go_wp2
    go_quiet (fail)
    go_wp2
    go_ret
    exact ⟨rfl,gr_trans hg (gr_drewN _ _ _)⟩
   ·have hr:=unhide HR
    rw [Sv.tFrom_no he] at hr
    have HR2:=hide hr
    rw [Bool.eq_false_iff.2 he] at q1
    clear HR he hr
    go_wp2
    go_quiet (fail)
    go_wp2
    go_roundw
    case rel=>exact ⟨k+1,by omega,by go_num,unhide HR2,gr_trans hg (gr_drewN _ _ _),by rw [(gr_drewN _ _ none).block _ (row_lt (unhide HB)) (by simp)]; exact unhide HB⟩
    case measure=>simp [intOf]; omega
  ·have hd:decide (k < ts.length)=false:=by simpa using hlt
   have e:ts.drop k=[]:=List.drop_of_length_le (by omega)
   rw [e] at hr
   have hr2:-1=R:=hr
   subst hr2
   go_wp2
   go_ret
   exact ⟨rfl,hg⟩
def fitT1 (all:List Sv.Term) (vs:List Int) (p:Nat) (t:Sv.Term):Bool:=if t.sort=2 then vs.getD p 0 == t.value else if t.sort=1 then vs.getD p 0 == vs.getD (Sv.tIdx all t) 0 else true
theorem Sv.tIdx_lt:∀ (ts:List Sv.Term) (t:Sv.Term),t∈ts→Sv.tIdx ts t < ts.length∧ts.any (fun u=>Sv.Term.eqb u t)=true
 | [],t,h=>by simp at h
 | u :: us,t,h=>by
  unfold Sv.tIdx
  by_cases e:Sv.Term.eqb u t=true
  ·rw [if_pos e]; simp [e]
  ·rw [if_neg e]
   have e2:Sv.Term.eqb t t=true:=by simp [Sv.Term.eqb]
   rcases List.mem_cons.1 h with rfl | h
   ·exact absurd e2 e
   ·obtain ⟨h1,h2⟩:=Sv.tIdx_lt us t h
    exact ⟨by simp; omega,by rw [List.any_cons,h2,Bool.or_true]⟩
set_option maxRecDepth 100000 in
set_option maxHeartbeats 1000000 in
theorem fitsAt_w (U:Nat→Nat) (b:Nat) (c:Sv.Cond) (ls:List Lnk) (p:Nat) (t:Sv.Term) (vv:Value) (vs:List Int) (w:World) (hc:CdAt U b 0 c ls w) (ht:c.terms[p]?=some t) (hv:IsAt 0 vv vs w) (hl:vs.length=c.terms.length) :
  Calls Tryz.prog 183 #[.pointer (some ⟨b,0,none⟩),.int .i64 p,.agg #[.int .i64 t.sort,.int .u8 t.letter.toNat,.int .i64 t.value],vv] w fun e w'=>e=.returned (.bool (fitT1 c.terms vs p t))∧w.grownBy w' none:=by
 obtain ⟨ao,cap,rfl⟩:=hv.slice
 have hp:=(List.getElem?_eq_some_iff.1 ht).1
 have hpv:p < vs.length:=by omega
 obtain ⟨x,hx⟩:∃ x,vs[p]?=some x:=⟨_,List.getElem?_eq_getElem hpv⟩
 have hgA:=World.grownBy_alloc w (.cells #[.int .i64 t.sort,.int .u8 t.letter.toNat,.int .i64 t.value] 258) none
 obtain ⟨g,cap',e1,hcx⟩:=(hv.gr hgA).cells hx
 simp only [Value.slice.injEq,true_and] at e1
 obtain ⟨rfl,rfl⟩:=e1
 have x0:(w.alloc (.cells #[.int .i64 t.sort,.int .u8 t.letter.toNat,.int .i64 t.value] 258)).cell? ⟨g,p,none⟩=some (.int .i64 x):=by have:=hcx 0 (by omega); simpa [ienc] using this
 have hs4:=hc.short
 have ex:vs.getD p 0=x:=by rw [List.getD_eq_getElem?_getD,hx]; rfl
 unfold fitT1
 rw [ex]
 clear hcx ex
 by_cases h2:t.sort=2
 ·rw [if_pos h2]
  have hd:((t.sort:Int) == 2)=true:=by simp [h2]
  clear h2
  go_enter Tryz.func183,Tryz.ntmps183
  go_wp2
  go_region
  all_goals
   go_wp2
   go_ret
   exact ⟨rfl,by repeat (first | exact hgA | apply gr_drew)⟩
 ·rw [if_neg h2]
  have hd:((t.sort:Int) == 2)=false:=by simp; omega
  by_cases h1:t.sort=1
  ·rw [if_pos h1]
   have hd1:((t.sort:Int) == 1)=true:=by simp [h1]
   obtain ⟨i,hi⟩:∃ i,Sv.tIdx c.terms t=i:=⟨_,rfl⟩
   have hm:=Sv.tIdx_lt c.terms t (List.mem_of_getElem? ht)
   have hil:i < vs.length:=by rw [hl,←hi]; exact hm.1
   obtain ⟨y,hy⟩:∃ y,vs[i]?=some y:=⟨_,List.getElem?_eq_getElem hil⟩
   have ey:vs.getD (Sv.tIdx c.terms t) 0=y:=by rw [hi,List.getD_eq_getElem?_getD,hy]; rfl
   rw [ey]
   have hF:Sv.tFrom 0 c.terms t=(i:Int):=by unfold Sv.tFrom; rw [if_pos hm.2,hi,Nat.zero_add]
   obtain ⟨tv,hc1,hc2⟩:=hc.terms
   rw [Nat.zero_add] at hc1
   have hc1':=hgA.cell hc1 (by simp)
   obtain ⟨ta,tc,rfl⟩:=hc2.1.slice
   obtain ⟨g2,cap2,e2,hcy⟩:=(hv.gr hgA).cells hy
   simp only [Value.slice.injEq,Option.some.injEq,Addr.mk.injEq,true_and,and_true] at e2
   obtain ⟨rfl,rfl⟩:=e2
   have y0:(w.alloc (.cells #[.int .i64 t.sort,.int .u8 t.letter.toNat,.int .i64 t.value] 258)).cell? ⟨g,i,none⟩=some (.int .i64 y):=by have:=hcy 0 (by omega); simpa [ienc] using this
   have hS:∀ wx,(w.alloc (.cells #[.int .i64 t.sort,.int .u8 t.letter.toNat,.int .i64 t.value] 258)).grownBy wx none→Calls Tryz.prog 204 #[.slice ta c.terms.length tc,.agg #[.int .i64 t.sort,.int .u8 t.letter.toNat,.int .i64 t.value]] wx fun e w'=>e=.returned (.int .i64 (i:Int))∧wx.grownBy w' none:=by
    intro wx hgx
    have:=idxTm_w _ c.terms t wx 0 ((hc2.1.gr hgA).gr hgx)
    rw [hF] at this
    exact this
   clear hm ey hi ht hcy hy hx hv hc2 hF h1 h2
   go_enter Tryz.func183,Tryz.ntmps183
   go_wp2
   go_region_with (go_at_call 204; refine (hS _ (by repeat (first | exact World.grownBy.refl _ _ | apply gr_drew))).mono ?_; rintro e w1 ⟨rfl,hg1⟩; have hgx:World.grownBy (w.alloc (.cells #[.int .i64 t.sort,.int .u8 t.letter.toNat,.int .i64 t.value] 258)) w1 none:=gr_trans (by repeat (first | exact World.grownBy.refl _ _ | apply gr_drew)) hg1; have x1:=hgx.cell x0 (by simp); have y1:=hgx.cell y0 (by simp))
   all_goals
    go_wp2
    go_ret
    exact ⟨rfl,by repeat (first | exact gr_trans hgA hgx | apply gr_drew)⟩
  ·rw [if_neg h1]
   have hd1:((t.sort:Int) == 1)=false:=by simp; omega
   clear h1 h2
   go_enter Tryz.func183,Tryz.ntmps183
   go_wp2
   go_ret
   exact ⟨rfl,hgA⟩
end Go.Proofs.YtolhbeekfjnfmaaGreatDoor

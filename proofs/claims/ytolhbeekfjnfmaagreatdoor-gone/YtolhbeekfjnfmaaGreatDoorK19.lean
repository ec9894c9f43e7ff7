import Derived.Test.YtolhbeekfjnfmaaGreatDoorK18
import Derived.Test.YtolhbeekfjnfmaaGreatDoorK06
import Derived.Test.YtolhbeekfjnfmaaGreatDoorK15
namespace Go.Proofs.YtolhbeekfjnfmaaGreatDoor
open Go.RowKit
set_option maxRecDepth 100000 in
set_option maxHeartbeats 1000000 in
theorem isFact_w (f:Sv.Fact) (fa:Option Addr) (fc:Nat) (w:World) (hf:InAt (.slice fa f.vals.length fc) f.vals w) (hl:f.vals.length≤maxLen) :
  Calls Tryz.prog 39 #[.agg #[.int .i64 f.kind,.slice fa f.vals.length fc]] w fun e w'=>e=.returned (.bool (Sv.factOk f))∧w.grownBy w' none:=by
 have hgA:=World.grownBy_alloc w (.cells #[.int .i64 f.kind,.slice fa f.vals.length fc] 37) none
 unfold maxLen at hl
 by_cases h:(decide (f.kind < 0) || decide (9 < f.kind) || decide (4 < f.vals.length))=true
 ·have e:Sv.factOk f=false:=by unfold Sv.factOk; rw [h]; rfl
  rw [e]
  clear e hf
  by_cases h1:f.kind < 0
  ·have d1:decide (f.kind < 0)=true:=by simpa using h1
   go_enter Tryz.func39,Tryz.ntmps39
   go_wp2
   go_ret
   exact ⟨rfl,hgA⟩
  ·have d1:decide (f.kind < 0)=false:=by simpa using h1
   by_cases h2:9 < f.kind
   ·have d2:decide (9 < f.kind)=true:=by simpa using h2
    go_enter Tryz.func39,Tryz.ntmps39
    go_wp2
    go_ret
    exact ⟨rfl,hgA⟩
   ·have d2:decide (9 < f.kind)=false:=by simpa using h2
    have h3:4 < f.vals.length:=by simpa [h1,h2] using h
    have d3:decide ((4:Int) < (f.vals.length:Int))=true:=by simp; omega
    clear h h1 h2
    go_enter Tryz.func39,Tryz.ntmps39
    go_wp2
    go_ret
    exact ⟨rfl,hgA⟩
 ·have hn:(decide (f.kind < 0) || decide (9 < f.kind) || decide (4 < f.vals.length))=false:=by simpa using h
  have e:Sv.factOk f=f.vals.all Sv.valOk:=by unfold Sv.factOk; rw [hn]; rfl
  rw [e]
  rw [Bool.or_eq_false_iff,Bool.or_eq_false_iff] at hn
  obtain ⟨⟨d1,d2⟩,d3⟩:=hn
  have h4:f.vals.length≤4:=by simpa using d3
  have d3':decide ((4:Int) < (f.vals.length:Int))=false:=by simp; omega
  obtain ⟨R,hR⟩:∃ R,f.vals.all Sv.valOk=R:=⟨_,rfl⟩
  rw [hR]
  have HR:=hide hR
  have HF:=hide hf
  clear h e d3 hR hf
  go_enter Tryz.func39,Tryz.ntmps39
  go_wp2
  go_loopw [22] (fun x w'=>∃ i:Nat,i≤f.vals.length∧x=.int .i64 i∧w.grownBy w' none∧(f.vals.drop i).all Sv.valOk=R) (fun x _=>f.vals.length - (intOf x).toNat)
  case atStart=>exact ⟨0,Nat.zero_le _,rfl,hgA,unhide HR⟩
  case round=>
   clear hgA HR
   obtain ⟨i,hi,rfl,hg,hR⟩:=hrel
   by_cases hlt:i < f.vals.length
   ·have hd:decide (i < f.vals.length)=true:=by simpa using hlt
    obtain ⟨x,hx⟩:∃ x,f.vals[i]?=some x:=⟨f.vals[i],List.getElem?_eq_getElem hlt⟩
    rw [drop_get hx,List.all_cons] at hR
    obtain ⟨g2,off2,rfl,x0⟩:=((unhide HF).gr hg).cell hx
    clear hx
    by_cases hx1:x < -999999999
    ·have dx:decide (x < -999999999)=true:=by simpa using hx1
     have hv:Sv.valOk x=false:=by unfold Sv.valOk; rw [dx]; rfl
     rw [hv,Bool.false_and] at hR
     subst hR
     clear hv
     go_wp2
     go_ret
     exact ⟨rfl,hg⟩
    ·have dx:decide (x < -999999999)=false:=by simpa using hx1
     by_cases hx2:999999999 < x
     ·have dy:decide (999999999 < x)=true:=by simpa using hx2
      have hv:Sv.valOk x=false:=by unfold Sv.valOk; rw [dx,dy]; rfl
      rw [hv,Bool.false_and] at hR
      subst hR
      clear hv
      go_wp2
      go_ret
      exact ⟨rfl,hg⟩
     ·have dy:decide (999999999 < x)=false:=by simpa using hx2
      have hv:Sv.valOk x=true:=by unfold Sv.valOk; rw [dx,dy]; rfl
      rw [hv,Bool.true_and] at hR
      have HR:=hide hR
      clear hR hv
      go_wp2
      go_roundw
      case rel=>exact ⟨i+1,by omega,by go_num,hg,unhide HR⟩
      case measure=>simp [intOf]; omega
   ·have hd:decide (i < f.vals.length)=false:=by simpa using hlt
    have e:f.vals.drop i=[]:=List.drop_of_length_le (by omega)
    rw [e] at hR
    have hR2:true=R:=hR
    subst hR2
    go_wp2
    go_ret
    exact ⟨rfl,hg⟩
theorem app_in_step {P:Program} {w:World} {ops:Array Oper} {o:Oper} {a:Act} {K:Act→World→Prop} {Q:Exit→Act→World→Prop} {E:Prop} (hgd:o.guard=none) (s x:Operand) (t:TypeId)
  (ho:o.op=.call { callee:=.builtin .append,args:=#[s,x],argTypes:=#[t,t] }) {z:Value} {bytes:Nat}
  (ht:P.underlying t=some (.slice 3)) (hinf:(P.info? 3).map (fun i=>(i.zero,i.size,i.bytes))=some (some z,1,bytes)) (hzs:z.cells.size=1)
  {base:Nat} {v u:Value} {l l2:List Int} (hs:a.eval s=v) (hown:IsAt base v l w) (hx:a.eval x=u) (hsrc:InAt u l2 w)
  (h63:l.length+l2.length≤maxLen) (hbytes:(l.length+l2.length) * bytes≤140737488355328) (hbase:base≤w.heap.size)
  (h:∀ v' w',IsAt base v' (l ++ l2) w'→w.grownBy w' v.ownBlock→K (a.put o.dst v') w') :
  if Region.wanted o (yielded ops a.tmps)=true then Oper.wp P o a w K Q else E:=by
 have hw:Region.wanted o (yielded ops a.tmps)=true:=by simp [Region.wanted,hgd]
 rw [if_pos hw]
 obtain ⟨i,hi,hz,hsize,hby⟩:=info_parts hinf
 rcases hsrc with ⟨rfl,rfl⟩ | ⟨ad,cap,rfl,h2,h3⟩
 ·have hrun:=run_append_owned_none (P:=P) (w:=w) base t o.type 3 i 1 ht hi v l.length (l.flatMap ienc) hown.2
  unfold Oper.wp
  simp [execOp,ho,resolve,invoke,builtin,hs,hx,hrun,Result.andThen]
  refine h v w ?_ ?_
  ·rw [List.append_nil]; exact hown
  ·exact World.grownBy.refl _ _
 ·have hfm:∀ k:List Int,(k.flatMap ienc).length=k.length * 1:=by
   intro k
   induction k with
   | nil=>rfl
   | cons b k ih=>rw [List.flatMap_cons,List.length_append,ih,List.length_cons]; simp [ienc]; omega
  refine wp_append_own w s x t ho base 3 i z 1 bytes ht hi hz hsize hby hzs (by decide) v l.length (l.flatMap ienc) hs hown.2 ad l2.length cap (l2.flatMap ienc) hx (hfm l2) ?_ ?_ h63 hbytes hbase ?_
  ·intro j y hj
   have hjl:j < l2.length:=by
    have:=(List.getElem?_eq_some_iff.1 hj).1
    rw [hfm l2] at this
    omega
   have hg:=fm_get ienc 1 ienc_len l2 j l2[j] (List.getElem?_eq_getElem hjl) 0 (by omega)
   rw [show j * 1+0=j from by omega,hj] at hg
   have hy:y=.int .i64 l2[j]:=by simpa [ienc] using hg
   obtain ⟨g,off,e1,e2⟩:=h3 j l2[j] (List.getElem?_eq_getElem hjl)
   have hadd:ad.add j=⟨g,off+j,none⟩:=by
    rw [e1]
    unfold Addr.add
    by_cases hj0:j=0
    ·simp [hj0]
    ·simp [hj0]
   rw [hadd,e2,hy]
  ·intro c hc
   obtain ⟨y,_,hy⟩:=List.mem_flatMap.1 hc
   exact ienc_one y c hy
  ·intro v' w' k1 k2 _
   refine h v' w' ⟨hown.1,?_⟩ k2
   rw [List.length_append,List.flatMap_append]
   exact k1
set_option maxRecDepth 100000 in
set_option maxHeartbeats 2000000 in
theorem copyOf_w (f:Sv.Fact) (fa:Option Addr) (fc:Nat) (w:World) (hf:InAt (.slice fa f.vals.length fc) f.vals w) (hl:f.vals.length≤4) :
  Calls Tryz.prog 40 #[.agg #[.int .i64 f.kind,.slice fa f.vals.length fc]] w fun e w'=>∃ ao cap,e=.returned (.agg #[.int .i64 f.kind,.slice ao f.vals.length cap])∧w.grownBy w' none∧IsAt w.heap.size (.slice ao f.vals.length cap) f.vals w':=by
 have hgA:=gr_al2 w (.cells #[.int .i64 f.kind,.slice fa f.vals.length fc] 37) (.cells #[.int .i64 0,.slice none 0 0] 37)
 have hA0:C2 37 w.heap.size (.int .i64 f.kind) (.slice fa f.vals.length fc) ((w.alloc (.cells #[.int .i64 f.kind,.slice fa f.vals.length fc] 37)).alloc (.cells #[.int .i64 0,.slice none 0 0] 37)):=blk_al (blk_nw rfl)
 have hA1:C2 37 (w.heap.size+1) (.int .i64 0) (.slice none 0 0) ((w.alloc (.cells #[.int .i64 f.kind,.slice fa f.vals.length fc] 37)).alloc (.cells #[.int .i64 0,.slice none 0 0] 37)):=blk_nw (by simp)
 have hsA:((w.alloc (.cells #[.int .i64 f.kind,.slice fa f.vals.length fc] 37)).alloc (.cells #[.int .i64 0,.slice none 0 0] 37)).heap.size=w.heap.size+2:=by simp
 have hfA:=hf.gr hgA
 go_enter Tryz.func40,Tryz.ntmps40
 go_wp2_with fail
 obtain ⟨a0,a1⟩:=hA0.c
 generalize (w.alloc (.cells #[.int .i64 f.kind,.slice fa f.vals.length fc] 37)).alloc (.cells #[.int .i64 0,.slice none 0 0] 37)=wA at hgA hA0 hA1 hsA hfA a0 a1 ⊢
 have hkey:∀ v1 w1,IsAt (w.heap.size+2) v1 ([] ++ f.vals) w1→wA.grownBy w1 none→∃ ao cap,v1=.slice ao f.vals.length cap∧(w1.cell? ⟨w.heap.size,0,none⟩=some (.int .i64 f.kind)∧w1.cell? ⟨w.heap.size,1,none⟩=some (.slice fa f.vals.length fc))∧(w1.cell? ⟨w.heap.size+1,0,none⟩=some (.int .i64 0)∧w1.cell? ⟨w.heap.size+1,1,none⟩=some (.slice none 0 0)∧w1.frozen? ⟨w.heap.size+1,0,none⟩=false∧w1.frozen? ⟨w.heap.size+1,1,none⟩=false)∧C2 37 (w.heap.size+1) (.int .i64 0) (.slice none 0 0) w1:=by
  intro v1 w1 hv1 hg1
  obtain ⟨ao,cap,rfl⟩:=hv1.slice
  have hB0:=hA0.kept hg1 (by simp)
  have hB1:=hA1.kept hg1 (by simp)
  obtain ⟨b0,b1⟩:=hB0.c
  obtain ⟨c0,c1⟩:=hB1.c
  exact ⟨ao,cap,rfl,⟨b0,b1⟩,⟨c0,c1,hB1.fz 0,hB1.fz 1⟩,hB1⟩
 have HKEY:=hide hkey
 have HFA:=hide hfA
 clear hkey hA0 hA1 hf hfA
 go_region_held3 (fun w'=>w'.cell? ⟨w.heap.size,0,none⟩=some (.int .i64 f.kind)∧w'.cell? ⟨w.heap.size,1,none⟩=some (.slice fa f.vals.length fc)) (first | exact z1 | go_keep)
  ((refine app_in_step (by rfl) _ _ 35 (by rfl) Tryz.underlying35 Tryz.infoInt rfl (by simp [Act.eval]) (RowAt.nil (w.heap.size+2) _ ienc_len) (by simp [Act.eval]) ((unhide HFA).gr (gr_drew (World.grownBy.refl _ _))) (by (unfold maxLen; simp; omega)) (by (simp; omega)) (Nat.le_of_eq hsA.symm) ?_; intro v1 w1 hv1 hg1; obtain ⟨ao,cap,rfl,z1,⟨y0,y1,yf0,yf1⟩,hB1⟩:=unhide HKEY v1 w1 hv1 (gr_trans (gr_drew (World.grownBy.refl _ _)) hg1)))
 rw [List.nil_append] at hv1
 have k2:=gr_set2 w1 (w.heap.size+1) (.int .i64 f.kind) (.slice ao f.vals.length cap)
 have hR:=hB1.set2 (.int .i64 f.kind) (.slice ao f.vals.length cap)
 obtain ⟨r0,r1⟩:=hR.c
 have hown:=hv1.own
 have hv2:=(hv1.other k2 (fun g hg e=>by have:=hown g hg; simp at e; omega)).weak (base':=w.heap.size) (by omega)
 have hg3:=gr_own (gr_trans hgA (gr_trans (gr_drew (World.grownBy.refl _ _)) hg1)) k2 (by omega)
 go_wp2_with fail
 exact bodyPost_ret (v:=.agg #[.int .i64 f.kind,.slice ao f.vals.length cap]) (by simp [results,Tryz.results40,go_sem,r0,r1]) rfl ⟨ao,cap,rfl,hg3,hv2⟩
end Go.Proofs.YtolhbeekfjnfmaaGreatDoor
namespace Go.Proofs.YtolhbeekfjnfmaaGreatDoor
open Go.RowKit
def Tok.ids (t:Tok):List Int:=t.map (fun g=>g.id)
theorem ids_in {t:Tok} {a0 a1 a2 a3:Int} {g jn:Nat} {w:World} (h:A4 g a0 a1 a2 a3 w) (hn:t.nums=[a0,a1,a2,a3]) (hl:t.length=jn) (h4:jn≤4):InAt (.slice (some ⟨g,0,none⟩) jn 4) t.ids w:=by
 have hlen:t.ids.length=jn:=by unfold Tok.ids; rw [List.length_map,hl]
 refine .inr ⟨⟨g,0,none⟩,4,by rw [hlen],by rw [hlen]; unfold maxLen; omega,fun i x hx=>⟨g,0,rfl,?_⟩⟩
 have hi:i < jn:=by have:=(List.getElem?_eq_some_iff.1 hx).1; omega
 have hx2:([a0,a1,a2,a3]:List Int)[i]?=some x:=by
  rw [←hn]
  unfold Tok.nums
  rw [List.getElem?_append_left (by rw [List.length_map]; omega)]
  exact hx
 have hb:w.heap[g]?=some (.cells #[.int .i64 a0,.int .i64 a1,.int .i64 a2,.int .i64 a3] 39 (0,0)):=h
 have:i=0∨i=1∨i=2∨i=3:=by omega
 rcases this with rfl | rfl | rfl | rfl<;>simp at hx2<;>subst hx2<;>simp [World.cell?,hb]
set_option maxRecDepth 100000 in
set_option maxHeartbeats 2000000 in
theorem match_w (U:Nat→Nat) (b ru jn:Nat) (t:Tok) (w:World) (h2:w.cell? ⟨b,2,none⟩=some (.int .i64 ru)) (h3:w.cell? ⟨b,3,none⟩=some (.int .i64 jn)) (hl:t.length=jn) (h4:jn≤4) (ht:∀ g∈t,FtAt U g w) :
  Calls Tryz.prog 75 #[.pointer (some ⟨b,0,none⟩),tokV t] w fun e w'=>∃ ao cap,e=.returned (.agg #[.int .i64 ru,.slice ao jn cap])∧w.grownBy w' none∧IsAt w.heap.size (.slice ao jn cap) t.ids w':=by
 obtain ⟨p0,p1,p2,p3,hp,hi,hp0,hp1,hp2,hp3⟩:=tok_pids (by omega) ht
 have eT:tokV t=.agg #[.pointer p0,.pointer p1,.pointer p2,.pointer p3]:=by unfold tokV; rw [hp]
 rw [eT]
 have hgA:=gr_al2 w (.cells #[.pointer p0,.pointer p1,.pointer p2,.pointer p3] 139) (.cells #[.int .i64 0,.slice none 0 0] 52)
 have hA1:C2 52 (w.heap.size+1) (.int .i64 0) (.slice none 0 0) ((w.alloc (.cells #[.pointer p0,.pointer p1,.pointer p2,.pointer p3] 139)).alloc (.cells #[.int .i64 0,.slice none 0 0] 52)):=blk_nw (by simp)
 have hN0:=numbers_w U p0 p1 p2 p3 _ _ _ _ _ (hp0.gr hgA) (hp1.gr hgA) (hp2.gr hgA) (hp3.gr hgA)
 have hN:=hN0.mono (R':=fun e w'=>e=.returned (.agg #[.int .i64 (pid w p0),.int .i64 (pid w p1),.int .i64 (pid w p2),.int .i64 (pid w p3)])∧((w.alloc (.cells #[.pointer p0,.pointer p1,.pointer p2,.pointer p3] 139)).alloc (.cells #[.int .i64 0,.slice none 0 0] 52)).grownBy w' none) (by
  rintro e w' ⟨rfl,rfl⟩
  exact ⟨rfl,by repeat (first | with_reducible exact World.grownBy.refl _ _ | refine gr_al ?_ _)⟩)
 have hbl:=World.block_lt_of_cell? w _ h2
 dsimp only at hbl
 have hne:b≠w.heap.size+1:=by omega
 clear hN0 hp eT ht hp0 hp1 hp2 hp3
 generalize pid w p0=i0,pid w p1=i1,pid w p2=i2,pid w p3=i3 at hi hN
 have HI:=hide hi
 clear hi
 go_enter Tryz.func75,Tryz.ntmps75
 go_wp2_with (go_at_call 109; refine hN.mono ?_; rintro e w1 ⟨rfl,hg1⟩)
 have hsA:((w.alloc (.cells #[.pointer p0,.pointer p1,.pointer p2,.pointer p3] 139)).alloc (.cells #[.int .i64 0,.slice none 0 0] 52)).heap.size=w.heap.size+2:=by simp
 have hs1:=hg1.size
 rw [hsA] at hs1
 have hgB:=gr_trans (gr_trans hgA hg1) (World.grownBy_alloc w1 (.cells #[.int .i64 i0,.int .i64 i1,.int .i64 i2,.int .i64 i3] 39) none)
 have hB1:=(hA1.kept hg1 (by simp)).kept (World.grownBy_alloc w1 (.cells #[.int .i64 i0,.int .i64 i1,.int .i64 i2,.int .i64 i3] 39) none) (by simp)
 have hB4:A4 w1.heap.size i0 i1 i2 i3 (w1.alloc (.cells #[.int .i64 i0,.int .i64 i1,.int .i64 i2,.int .i64 i3] 39)):=A4.nw rfl
 have hsB:(w1.alloc (.cells #[.int .i64 i0,.int .i64 i1,.int .i64 i2,.int .i64 i3] 39)).heap.size=w1.heap.size+1:=by simp
 have c2:=hgB.cell h2 (by simp)
 have c3:=hgB.cell h3 (by simp)
 have hsrc:=ids_in hB4 (unhide HI) hl h4
 generalize w1.alloc (.cells #[.int .i64 i0,.int .i64 i1,.int .i64 i2,.int .i64 i3] 39)=wB at hgB hB1 hB4 hsB c2 c3 hsrc ⊢
 have hil:t.ids.length=jn:=by unfold Tok.ids; rw [List.length_map]; exact hl
 have hkey:∀ v1 w2,IsAt (w1.heap.size+1) v1 ([] ++ t.ids) w2→wB.grownBy w2 none→∃ ao cap,v1=.slice ao jn cap∧(w2.cell? ⟨b,2,none⟩=some (.int .i64 ru)∧w2.cell? ⟨b,3,none⟩=some (.int .i64 jn))∧(w2.cell? ⟨w.heap.size+1,0,none⟩=some (.int .i64 0)∧w2.cell? ⟨w.heap.size+1,1,none⟩=some (.slice none 0 0)∧w2.frozen? ⟨w.heap.size+1,0,none⟩=false∧w2.frozen? ⟨w.heap.size+1,1,none⟩=false)∧C2 52 (w.heap.size+1) (.int .i64 0) (.slice none 0 0) w2∧∀ x y,((w2.setCell ⟨w.heap.size+1,0,none⟩ x).setCell ⟨w.heap.size+1,1,none⟩ y).cell? ⟨b,2,none⟩=some (.int .i64 ru)∧((w2.setCell ⟨w.heap.size+1,0,none⟩ x).setCell ⟨w.heap.size+1,1,none⟩ y).cell? ⟨b,3,none⟩=some (.int .i64 jn):=by
  intro v1 w2 hv1 hg2
  obtain ⟨ao,cap,hv⟩:=hv1.slice
  rw [List.nil_append,hil] at hv
  have hC1:=hB1.kept hg2 (by simp)
  obtain ⟨d0,d1⟩:=hC1.c
  exact ⟨ao,cap,hv,⟨hg2.cell c2 (by simp),hg2.cell c3 (by simp)⟩,⟨d0,d1,hC1.fz 0,hC1.fz 1⟩,hC1,fun x y=>⟨(gr_set2 w2 (w.heap.size+1) x y).cell (hg2.cell c2 (by simp)) (by simp; omega),(gr_set2 w2 (w.heap.size+1) x y).cell (hg2.cell c3 (by simp)) (by simp; omega)⟩⟩
 have HKEY:=hide hkey
 have HSRC:=hide hsrc
 have HGB:=hide hgB
 have l0:(0:Int)≤(jn:Int):=by omega
 have l1:(jn:Int)≤4:=by omega
 have HIL:=hide hil
 clear hkey hB1 hB4 hN hA1 hgA hg1 hsA h2 h3 hsrc hgB hil
 go_region_held3 (fun w'=>w'.cell? ⟨b,2,none⟩=some (.int .i64 ru)∧w'.cell? ⟨b,3,none⟩=some (.int .i64 jn)) (first | exact z1 | exact zs _ _ | go_keep)
  ((refine app_in_step (by rfl) _ _ 35 (by rfl) Tryz.underlying35 Tryz.infoInt rfl (by simp [Act.eval]) (RowAt.nil (w1.heap.size+1) _ ienc_len) (by simp [Act.eval]) ((unhide HSRC).gr (gr_drew (World.grownBy.refl _ _))) (by (rw [unhide HIL]; unfold maxLen; simp; omega)) (by (rw [unhide HIL]; simp; omega)) (Nat.le_of_eq hsB.symm) ?_; intro v1 w2 hv1 hg2; obtain ⟨ao,cap,rfl,z1,⟨y0,y1,yf0,yf1⟩,hC1,zs⟩:=unhide HKEY v1 w2 hv1 (gr_trans (gr_drew (World.grownBy.refl _ _)) hg2)))
 rw [List.nil_append] at hv1
 have k2:=gr_set2 w2 (w.heap.size+1) (.int .i64 ru) (.slice ao jn cap)
 have hR:=hC1.set2 (.int .i64 ru) (.slice ao jn cap)
 obtain ⟨r0,r1⟩:=hR.c
 have hown:=hv1.own
 have hv2:=(hv1.other k2 (fun g hg e=>by have:=hown g hg; simp at e; omega)).weak (base':=w.heap.size) (by omega)
 have hg3:=gr_own (gr_trans (unhide HGB) (gr_trans (gr_drew (World.grownBy.refl _ _)) hg2)) k2 (by omega)
 clear zs z1
 go_wp2_with fail
 exact bodyPost_ret (v:=.agg #[.int .i64 ru,.slice ao jn cap]) (by simp [results,Tryz.results75,go_sem,r0,r1]) rfl ⟨ao,cap,rfl,hg3,hv2⟩
end Go.Proofs.YtolhbeekfjnfmaaGreatDoor

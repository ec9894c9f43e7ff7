import Derived.Deep.RegionHeld3
import Derived.Test.YtolhbeekfjnfmaaGreatDoorM38
import Derived.Test.YtolhbeekfjnfmaaGreatDoorM39
namespace Go.Proofs.YtolhbeekfjnfmaaGreatDoor
open Go.RowKit
theorem WAt.add {T:Nat→Nat} {W:Nat} {nets:List Nt} {k i:Nat} {n:Nt} {f:Sv.Fact} {w w':World} {nv uv fv mv k0 k1 k2:Value} {us fs ms:List (Value×Int)} {ls:List Value} (hN:NetsAt T nv nets k w) (hn:nets[i]?=some n) (h3:us.length≤k * 2100000) (h4:fs.length≤4 * k) (h5:ms.length≤4 * k) (h6:ls.length≤k) (e:Ending)
  (hp:AddsPost XT T W nv uv fv mv k0 k1 k2 us fs ms ls (11+3 * i) (12+3 * i) n.x n.y (n.s.add f).2 w e w'):StepPost T W k nets.length w e w':=by
 obtain ⟨he,T',lv',ls',j1,j2,j3,j4,j5,j6⟩:=hp
 obtain ⟨_,_,hok,hc⟩:=hN.net i n hn
 obtain ⟨hok',hc'⟩:=hok.add f
 refine ⟨he,T',nets.set i ⟨n.x,n.y,(n.s.add f).2⟩,⟨nv,uv,fv,mv,k0,k1,k2,lv',us,fs,ms,ls',j1,hN.set hn j5 j6 j3 j4 hok' (by omega),Nat.le_trans h3 (Nat.mul_le_mul_right _ (Nat.le_succ k)),by omega,by omega,by omega⟩,by simp,j5.mono (fun j hj=>by omega),fun j hj h0=>by rw [j6 j hj,h0]⟩
theorem WAt.tell {T:Nat→Nat} {W:Nat} {nets:List Nt} {k:Nat} {w w':World} {nv mv k2 lv:Value} {us fs ms:List (Value×Int)} {ls:List Value} (hN:NetsAt T nv nets k w) (h3:us.length≤k * 2100000) (h4:fs.length≤4 * k) (h5:ms.length≤4 * k) (h6:ls.length≤k) (e:Ending)
  (hp:TellsPost T W nv mv k2 lv us fs ms ls w e w'):StepPost T W k nets.length w e w':=by
 obtain ⟨he,T',uv',fv',k0',k1',us',fs',j1,j2,j3,j4,j5⟩:=hp
 have hNO:∀ j,NetO (T j)→¬ (T j=1∨T j=3∨T j=6∨T j=4∨T j=7∨InH (T j)):=by
  rintro j (h | h | ⟨h,h2⟩) (e | e | e | e | e | e)<;>first | omega | exact h2 e | (have:=e.1; omega)
 refine ⟨he,T',nets,⟨nv,uv',fv',mv,k0',k1',k2,lv,us',fs',ms,ls,j1,hN.keep (Nat.le_succ k) j4 hNO (fun j hj h=>j5 j hj (fun hi=>hNO j h (.inr (.inr (.inr (.inr (.inr hi))))))),?_,by omega,by omega,by omega⟩,rfl,j4.mono (fun j hj h0=>?_),fun j hj h0=>by rw [j5 j hj (fun h=>by have:=h.1; omega),h0]⟩
 ·have:(k+1) * 2100000=k * 2100000+2100000:=by rw [Nat.add_mul,Nat.one_mul]
  rw [this]
  omega
 ·rcases hj with h | h | h | h | h | h
  ·omega
  ·omega
  ·omega
  ·omega
  ·omega
  ·have:=h.1; omega
theorem WAt.mats {T T1:Nat→Nat} {W:Nat} {nets:List Nt} {k n:Nat} {w w1 w':World} {nv uv fv mv k0 k1 k2 lv:Value} {us fs ms:List (Value×Int)} {ls:List Value} (hL:Lists T W nv uv fv mv k0 k1 k2 lv us fs ms ls w) (hN:NetsAt T nv nets k w) (h3:us.length≤k * 2100000) (h4:fs.length≤4 * k) (h5:ms.length≤4 * k) (h6:ls.length≤k) (hg:w.grownBy w1 none) (ho:∀ j,j < w.heap.size→T1 j=T j) (hn:n≤524288) (e:Ending)
  (hp:OwnMPost T1 W nv fv k1 lv us ms n w1 e w'):GrS (fun j=>T j≠0) w w'∧∃ T' nets',WAt T' W nets' (k+1) w'∧nets'.length=nets.length∧∀ j,j < w.heap.size→T j=0→T' j=0:=by
 obtain ⟨_,T',uv',k0',us',xv',kx',fs',j1,j2,j3,j4,j5,j6,j7⟩:=hp
 have hL1:=hL.gr hg ho
 have hN1:=hN.keep (T':=T1) (Nat.le_refl k) (GrS.of hg (by simp):GrS (fun _=>False) w w1) (by simp) (fun j hj _=>ho j hj)
 have hNO:∀ j,NetO (T1 j)→¬ (T1 j=1∨T1 j=3∨T1 j=6∨T1 j=5∨T1 j=8∨InH (T1 j)):=by
  rintro j (h | h | ⟨h,h2⟩) (e | e | e | e | e | e)<;>first | omega | exact h2 e | (have:=e.1; omega)
 have hnH:∀ t:Nat,t < 13→¬ InH t:=fun t h hI=>by have:=hI.1; omega
 have hno:∀ j,(T1 j=4∨T1 j=7∨T1 j=9∨T1 j=10)→¬ (T1 j=1∨T1 j=3∨T1 j=6∨T1 j=5∨T1 j=8∨InH (T1 j)):=by
  rintro j h (e | e | e | e | e | e)<;>first | omega | (have:=e.1; omega)
 refine ⟨?_,T',nets,⟨nv,uv',fv,xv',k0',k1,kx',lv,us',fs,fs',ls,⟨j1,?_,j2,?_,?_,j3⟩,?_,?_,by omega,by omega,by omega⟩,rfl,fun j hj h0=>?_⟩
 ·refine (GrS.of hg (by simp):GrS (fun j=>T j≠0) w w1).comp j6 (fun i hi hn2 hx=>?_)
  rw [ho i hi] at hx
  refine hn2 (fun h0=>?_)
  rcases hx with h | h | h | h | h | h
  ·omega
  ·omega
  ·omega
  ·omega
  ·omega
  ·have:=h.1; omega
 ·rw [j7 W (row_lt hL1.blk) (by rw [hL1.own]; exact hnH 1 (by omega))]; exact hL1.own
 ·exact hL1.lent.keep j6 (fun j hj=>hno j (by omega)) (fun j hj hj2=>j7 j hj (by rcases hj2 with h | h<;>(rw [h]; exact hnH _ (by omega))))
 ·exact hL1.facts.keep j6 (fun j hj=>hno j (by omega)) (fun j hj hj2=>j7 j hj (by rcases hj2 with h | h | h<;>(rw [h]; exact hnH _ (by omega))))
 ·exact hN1.keep (Nat.le_succ k) j6 hNO (fun j hj h=>j7 j hj (fun hi=>hNO j h (.inr (.inr (.inr (.inr (.inr hi)))))))
 ·have:(k+1) * 2100000=k * 2100000+2100000:=by rw [Nat.add_mul,Nat.one_mul]
  rw [this,j4]
  omega
 ·rw [j7 j (Nat.lt_of_lt_of_le hj hg.size) (by rw [ho j hj,h0]; exact hnH 0 (by omega)),ho j hj,h0]
theorem matF_len (L:List (Int×Sv.Fact)) (hL:L.length≤16):∀ (rs:List Sv.Rule) (k:Nat),(∀ r∈rs,r.conds.length≤4)→(Sv.matF L k rs).length≤rs.length * 65536
 | [],_,_=>by simp [Sv.matF]
 | r :: rs,k,h=>by
  have h1:=Sv.fromD_len L hL r.conds [] []
  have h2:16 ^ r.conds.length≤16 ^ 4:=Nat.pow_le_pow_right (by omega) (h r (List.mem_cons_self ..))
  have h3:(16:Nat) ^ 4=65536:=by decide
  have h4:=matF_len L hL rs (k+1) (fun q hq=>h q (List.mem_cons_of_mem _ hq))
  show ((Sv.fromD L r.conds [] []).map (fun ids=>((k:Int),ids)) ++ Sv.matF L (k+1) rs).length≤_
  rw [List.length_append,List.length_map,List.length_cons,Nat.add_mul,Nat.one_mul]
  omega
theorem mats_len (rs:List Sv.Rule) (L:List (Int×Sv.Fact)) (hr:Sv.RsOk rs) (hL:L.length≤16):(Sv.matches rs L).length≤524288:=by
 have h1:=matF_len L hL rs 0 hr.conds
 have h2:=hr.len
 have h3:rs.length * 65536≤8 * 65536:=Nat.mul_le_mul_right _ h2
 unfold Sv.matches
 omega
set_option maxRecDepth 100000 in
set_option maxHeartbeats 4000000 in
theorem step_net (T:Nat→Nat) (W:Nat) (nets:List Nt) (k:Nat) (w:World) (hW:WAt T W nets k w) (hk:k≤2000000) (q n:Int) (hn:I64 n) (s:ByteArray) (f:Sv.Fact) (fao:Option Addr) (fc:Nat) (hf:InAt (.slice fao f.vals.length fc) f.vals w) (hf0:f.vals≠[]→∀ g,(Value.slice fao f.vals.length fc).ownBlock=some g→g < w.heap.size∧T g=0) (hfl:f.vals.length≤1048576) (a:Int) (hq1:q≠1) (hq2:q≠2) (hq5:q≤5) (hne:0 < nets.length) (hnl:nets.length≤k) :
  Calls Tryz.prog 33 #[.pointer (some ⟨W,0,none⟩),.agg #[.int .i64 q,.int .i64 n,.string s,.int .i64 f.kind,.slice fao f.vals.length fc,.int .i64 a]] w fun e w'=>StepPost T W k nets.length w e w':=by
 have hgA:=World.grownBy_alloc w (.cells #[.int .i64 q,.int .i64 n,.string s,.int .i64 f.kind,.slice fao f.vals.length fc,.int .i64 a] 76) none
 have hxA:=heap_alloc_new w (.cells #[.int .i64 q,.int .i64 n,.string s,.int .i64 f.kind,.slice fao f.vals.length fc,.int .i64 a] 76)
 have hsA:(w.alloc (.cells #[.int .i64 q,.int .i64 n,.string s,.int .i64 f.kind,.slice fao f.vals.length fc,.int .i64 a] 76)).heap.size=w.heap.size+1:=by simp
 have hrng:=Sv.pick_rng n nets.length (by omega)
 obtain ⟨i,hi⟩:∃ i:Nat,Sv.pick n nets.length=i:=⟨(Sv.pick n nets.length).toNat,by omega⟩
 have hpk:=fun (wx:World)=>lpick_w n nets.length hn (by omega) (by omega) wx
 rw [hi] at hpk hrng
 have hil:i < nets.length:=by omega
 obtain ⟨nt,hnt⟩:∃ nt,nets[i]?=some nt:=⟨_,List.getElem?_eq_getElem hil⟩
 have hWW:=hW
 obtain ⟨nv,uv,fv,mv,k0,k1,k2,lv,us,fs,ms,ls,i1,i2,i3,i4,i5,i6⟩:=hWW
 obtain ⟨g,nc,hnv,hcs⟩:=i2.row.1.cells hnt
 have c0:w.cell? ⟨W,0,none⟩=some (.slice (some ⟨g,0,none⟩) nets.length nc):=by rw [i1.blk.cell 0,←hnv]; rfl
 have r0:w.cell? ⟨g,i * 2,none⟩=some (.pointer (some ⟨nt.x,0,none⟩)):=hcs 0 (by omega)
 have r1:w.cell? ⟨g,i * 2+1,none⟩=some (.pointer (some ⟨nt.y,0,none⟩)):=hcs 1 (by omega)
 have e1:(q == 1)=false:=by simpa using hq1
 have e2:(q == 2)=false:=by simpa using hq2
 have e3:((nets.length:Int) == 0)=false:=by simp; intro h; rw [h] at hne; simp at hne
 have HF:=hide hf
 have HF0:=hide hf0
 have HW:=hide hW
 have HI:=hide (show Lists T W nv uv fv mv k0 k1 k2 lv us fs ms ls w∧NetsAt T nv nets k w∧us.length≤k * 2100000∧fs.length≤4 * k∧ms.length≤4 * k∧ls.length≤k from ⟨i1,i2,i3,i4,i5,i6⟩)
 have HNT:=hide hnt
 have a0:=hgA.cell c0 (by simp)
 have a1:=hgA.cell r0 (by simp)
 have a2:=hgA.cell r1 (by simp)
 obtain ⟨fl,hfl2⟩:∃ fl,f.vals.length=fl:=⟨_,rfl⟩
 have HFL:=hide hfl2
 rw [hfl2] at hgA hxA hsA a0 a1 a2
 rw [hfl2]
 clear hf hf0 hW i1 i2 i3 i4 i5 i6 hcs hnv c0 r0 r1 hnt hi hn hfl2
 go_enter Tryz.func33,Tryz.ntmps33
 go_wp2_with fail
 have b0:(w.alloc (.cells #[.int .i64 q,.int .i64 n,.string s,.int .i64 f.kind,.slice fao fl fc,.int .i64 a] 76)).cell? ⟨w.heap.size,0,none⟩=some (.int .i64 q):=by simp
 have b1:(w.alloc (.cells #[.int .i64 q,.int .i64 n,.string s,.int .i64 f.kind,.slice fao fl fc,.int .i64 a] 76)).cell? ⟨w.heap.size,1,none⟩=some (.int .i64 n):=by simp
 have b3:(w.alloc (.cells #[.int .i64 q,.int .i64 n,.string s,.int .i64 f.kind,.slice fao fl fc,.int .i64 a] 76)).cell? ⟨w.heap.size,3,none⟩=some (.int .i64 f.kind):=by simp
 have b4:(w.alloc (.cells #[.int .i64 q,.int .i64 n,.string s,.int .i64 f.kind,.slice fao fl fc,.int .i64 a] 76)).cell? ⟨w.heap.size,4,none⟩=some (.slice fao fl fc):=by simp
 clear hxA
 generalize w.alloc (.cells #[.int .i64 q,.int .i64 n,.string s,.int .i64 f.kind,.slice fao fl fc,.int .i64 a] 76)=wA at hgA hsA a0 a1 a2 b0 b1 b3 b4 ⊢
 have hpk2:∀ wx,wA.grownBy wx none→Calls Tryz.prog 53 #[.int .i64 n,.int .i64 nets.length] wx fun e w2=>e=.returned (.int .i64 i)∧wA.grownBy w2 none∧w2.cell? ⟨W,0,none⟩=some (.slice (some ⟨g,0,none⟩) nets.length nc)∧w2.cell? ⟨w.heap.size,1,none⟩=some (.int .i64 n)∧w2.cell? ⟨g,i * 2,none⟩=some (.pointer (some ⟨nt.x,0,none⟩))∧w2.cell? ⟨g,i * 2+1,none⟩=some (.pointer (some ⟨nt.y,0,none⟩)):=by
  intro wx hx
  refine (hpk wx).mono ?_
  rintro e w2 ⟨rfl,rfl⟩
  exact ⟨rfl,hx,hx.cell a0 (by simp),hx.cell b1 (by simp),hx.cell a1 (by simp),hx.cell a2 (by simp)⟩
 have hil2:(i:Int) < (nets.length:Int):=by omega
 go_cut [15] (fun z wx=>∃ bp,z=.pointer (some ⟨bp,0,none⟩)∧Hid (wA.grownBy wx none∧wx.heap[bp]?=some (.cells #[.pointer (some ⟨nt.x,0,none⟩),.pointer (some ⟨nt.y,0,none⟩)] 106 (0,0))))
 case first=>
  have n0:=World.new_ne wA _ a0
  have n1:=World.new_ne wA _ a1
  have n2:=World.new_ne wA _ a2
  have n3:=World.new_ne wA _ b1
  have hi0:(0:Int)≤(i:Int):=by omega
  clear HF HF0 HW HI HNT HFL b0 b3 b4 hpk2 hgA
  go_region_held3 (fun w'=>w'.cell? ⟨W,0,none⟩=some (.slice (some ⟨g,0,none⟩) nets.length nc)∧w'.cell? ⟨w.heap.size,1,none⟩=some (.int .i64 n)∧w'.cell? ⟨g,i * 2,none⟩=some (.pointer (some ⟨nt.x,0,none⟩))∧w'.cell? ⟨g,i * 2+1,none⟩=some (.pointer (some ⟨nt.y,0,none⟩))) (go_keep)
   (first | (go_at_call 53; refine (hpk _).mono ?_; rintro e w2 ⟨rfl,rfl⟩))
  all_goals
   go_wp2_with fail
   go_meet
   have hbn:=heap_alloc_new wA (.cells #[.pointer (some ⟨nt.x,0,none⟩),.pointer (some ⟨nt.y,0,none⟩)] 106)
   rw [hsA] at hbn
   exact ⟨_,rfl,hide ⟨by repeat (first | with_reducible exact World.grownBy.refl _ _ | with_reducible apply gr_drew | with_reducible refine gr_al ?_ _),hbn⟩⟩
 case rest=>
  obtain ⟨bp,rfl,HC⟩:=hcut
  obtain ⟨hgc,hbp⟩:=unhide HC
  have p0:wc.cell? ⟨bp,0,none⟩=some (.pointer (some ⟨nt.x,0,none⟩)):=by simp [World.cell?,hbp]
  have p1:wc.cell? ⟨bp,1,none⟩=some (.pointer (some ⟨nt.y,0,none⟩)):=by simp [World.cell?,hbp]
  have d0:=hgc.cell b0 (by simp)
  have d3:=hgc.cell b3 (by simp)
  have d4:=hgc.cell b4 (by simp)
  have hgw:=gr_trans hgA hgc
  have hflv:=unhide HFL
  obtain ⟨T',hT'⟩:∃ T':Nat→Nat,T'=fun j=>if j < w.heap.size then T j else 0:=⟨_,rfl⟩
  have to1:∀ j,j < w.heap.size→T' j=T j:=fun j hj=>by rw [hT']; dsimp only; rw [if_pos hj]
  obtain ⟨i1,i2,i3,i4,i5,i6⟩:=unhide HI
  have hLc:=i1.gr hgw to1
  have hNc:=i2.keep (Nat.le_refl k) (GrS.of hgw (by simp):GrS (fun _=>False) w wc) (by simp) (fun j hj _=>to1 j hj)
  obtain ⟨hx,hy,hok,hcn⟩:=hNc.net i nt (unhide HNT)
  have hback:∀ e w',StepPost T' W k nets.length wc e w'→StepPost T W k nets.length w e w':=by
   rintro e w' ⟨he,T9,nets9,j1,jl,j2,j3⟩
   refine ⟨he,T9,nets9,j1,jl,(GrS.of hgw (by simp):GrS (fun j=>T j≠0) w wc).comp j2 (fun j hj hn=>by rw [to1 j hj]; exact hn),fun j hj h0=>j3 j (Nat.lt_of_lt_of_le hj hgw.size) (by rw [to1 j hj,h0])⟩
  have HB:=hide hback
  have HLN:=hide (show Lists T' W nv uv fv mv k0 k1 k2 lv us fs ms ls wc∧NetsAt T' nv nets k wc∧us.length≤k * 2100000∧fs.length≤4 * k∧ms.length≤4 * k∧ls.length≤k from ⟨hLc,hNc,i3,i4,i5,i6⟩)
  have HX:=hide hx
  have HY:=hide hy
  have HOK:=hide hok
  have HCN:=hide hcn
  by_cases h3:q=3
  ·have hA:=adds_w XT xspec T' W nv uv fv mv k0 k1 k2 lv us fs ms ls wc hLc (11+3 * i) (12+3 * i) nt.x nt.y nt.s (by omega) (by omega) (by omega) (notH_x i) (notH_y i) hx hy hok (by omega) f fao fc ((unhide HF).gr hgw) (fun hne g hg=>by obtain ⟨q1,q2⟩:=unhide HF0 hne g hg; exact ⟨Nat.lt_of_lt_of_le q1 hgw.size,by rw [to1 g q1,q2]⟩) hfl (by omega)
   rw [hflv] at hA
   have hfin:∀ e w',AddsPost XT T' W nv uv fv mv k0 k1 k2 us fs ms ls (11+3 * i) (12+3 * i) nt.x nt.y (nt.s.add f).2 wc e w'→StepPost T W k nets.length w e w':=fun e w' hp=>hback e w' (WAt.add hNc (unhide HNT) i3 i4 i5 i6 e hp)
   have HFN:=hide hfin
   have f1:(q == 3)=true:=by simpa using h3
   clear hfin hback hx hy hok hcn hLc hNc i1 i2 i3 i4 i5 i6 HB HLN HX HY HOK HCN hT' to1 HC hbp hflv a0 a1 a2 b0 b1 b3 b4 hpk2 hgc hgw
   go_wp2_with fail
   refine hA.mono ?_
   intro e w5 hp
   have hsp:=unhide HFN e w5 hp
   obtain ⟨he,_⟩:=hp
   subst he
   have HSP:=hide hsp
   clear hsp hA HFN
   go_wp2
   go_ret
   exact unhide HSP
  ·have f3:(q == 3)=false:=by simpa using h3
   by_cases h4:q=4
   ·have hA:=tells_w XT xspec T' W nv uv fv mv k0 k1 k2 lv us fs ms ls wc hLc (11+3 * i) (12+3 * i) nt.x nt.y nt.s (by omega) hx hy hok (by omega) (by omega)
    have hfin:∀ e w',TellsPost T' W nv mv k2 lv us fs ms ls wc e w'→StepPost T W k nets.length w e w':=fun e w' hp=>hback e w' (WAt.tell hNc i3 i4 i5 i6 e hp)
    have HFN:=hide hfin
    have f1:(q == 4)=true:=by simpa using h4
    clear hfin hback hx hy hok hcn hLc hNc i1 i2 i3 i4 i5 i6 HB HLN HX HY HOK HCN hT' to1 HC hbp hflv a0 a1 a2 b0 b1 b3 b4 hpk2 hgc hgw
    go_wp2_with fail
    refine hA.mono ?_
    intro e w5 hp
    have hsp:=unhide HFN e w5 hp
    obtain ⟨he,_⟩:=hp
    subst he
    have HSP:=hide hsp
    clear hsp hA HFN
    go_wp2
    go_ret
    exact unhide HSP
   ·have f4:(q == 4)=false:=by simpa using h4
    by_cases h5:q=5
    ·have f5:(q == 5)=true:=by simpa using h5
     have hXM:=xMatsT T' (11+3 * i) nt.x nt.s wc hx
     clear hback hx hy hok hcn hLc hNc i1 i2 i3 i4 i5 i6 hT' HC hbp hflv a0 a1 a2 b0 b1 b3 b4 hpk2 hgc
     have HGW:=hide hgw
     clear hgw
     go_wp2_with fail
     refine hXM.mono ?_
     rintro e w5 ⟨T5,l5,xs,rfl,hg5,hH5,hx5,hT5⟩
     obtain ⟨la,lc,rfl⟩:=hH5.row.1.slice
     have p15:=hg5.cell p1 (by simp)
     have hY5:=(unhide HY).keep (T':=T5) (GrS.of hg5 (by simp):GrS (fun _=>False) wc w5) (by simp) (fun j hj _=>hT5 j hj)
     obtain ⟨rv,lv5,fv5,L,fd,hYA,_,hLm,_⟩:=hY5.yat
     have hL16:L.length≤16:=by have:=(unhide HOK).facts; rw [←hLm,List.length_map] at this; exact this
     have hYM:=vMatches_w nt.y rv lv5 _ fv5 nt.s.rs L w5 hYA (unhide HOK).rules hL16
     unfold MatPost at hYM
     rw [hLm] at hYM
     have hxl:xs.length≤524288:=by
      have h1:=congrArg List.length hx5
      rw [List.length_map] at h1
      rw [h1]
      exact mats_len _ _ (unhide HOK).rules (by have:=(unhide HOK).facts; exact this)
     have HX5:=hide hx5
     have HH5:=hide hH5
     have HT5:=hide hT5
     clear hXM hY5 hYA hLm hL16 hx5 hH5 hT5
     go_wp2_with fail
     refine hYM.mono ?_
     rintro e w6 ⟨u6,ms6,rfl,hM6,hm6,hg6⟩
     obtain ⟨ua,uc,rfl⟩:=hM6.slice
     have hA6:MsAt 0 (.slice la xs.length lc) (xs.map (fun x=>(⟨x.kind,x.v,x.vals⟩:VMt))) w6:=by
      have hh:=(unhide HH5).mtAt.gr hg6
      refine ⟨⟨mtenc_len,?_⟩,fun m hm=>?_⟩
      ·have e1:(xs.map (fun x=>(⟨x.kind,x.v,x.vals⟩:VMt))).flatMap mtenc=xs.flatMap ftenc:=by rw [List.flatMap_map]; rfl
       rw [e1,List.length_map]
       exact hh.1.2
      ·obtain ⟨x,hx,rfl⟩:=List.mem_map.1 hm
       exact hh.2 x hx
     have hS:=sameM_w _ ms6 _ _ w6 hA6 (hM6.weak (Nat.zero_le _))
     have hdS:decide ((xs.map (fun x=>(⟨x.kind,x.v,x.vals⟩:VMt))).map VMt.of=ms6.map VMt.of)=true:=by
      rw [decide_eq_true_eq,hm6,←unhide HX5,List.map_map]
      rfl
     rw [hdS] at hS
     have hg56:=gr_trans hg5 hg6
     clear hYM hA6 hdS hm6 hM6 p15
     go_wp2_with fail
     refine hS.mono ?_
     rintro e w7 ⟨rfl,hg7⟩
     have hg57:=gr_trans hg56 hg7
     have hl7:=(unhide HLN).1.gr (T':=T') hg57 (fun _ _=>rfl)
     have hLk:=looks_full T' W nv uv fv mv k0 k1 k2 lv us fs ms ls w7 hl7.blk hl7.nums hl7.lent hl7.facts hl7.mats
     clear hS hl7 hg56
     go_wp2_with fail
     refine hLk.mono ?_
     rintro e w8 ⟨rfl,hg8⟩
     have hg58:=gr_trans hg57 hg8
     have hl8:=(unhide HLN).1.gr (T':=T5) hg58 (unhide HT5)
     have hH8:Hand T5 52 (.slice la xs.length lc) xs w8:=(unhide HH5).keep (GrS.of (gr_trans hg6 (gr_trans hg7 hg8)) (by simp):GrS (fun _=>False) w5 w8) (by simp) (fun _ _ _=>rfl)
     have hb:=(unhide HLN).2.2
     have hO:=ownM_w T5 W nv uv mv fv k0 k2 k1 lv us ms _ xs w8 hl8.blk hl8.own hl8.nums hl8.mats hH8 (by omega) (by omega) (by omega)
     have hfin:∀ e w',OwnMPost T5 W nv fv k1 lv us ms xs.length w8 e w'→StepPost T W k nets.length w (.returned (.bool true)) w':=by
      intro e w' hp
      obtain ⟨j1,T9,nets9,j2,jl,j3⟩:=WAt.mats (unhide HLN).1 (unhide HLN).2.1 hb.1 hb.2.1 hb.2.2.1 hb.2.2.2 hg58 (unhide HT5) hxl e hp
      exact unhide HB _ w' ⟨rfl,T9,nets9,j2,jl,j1,j3⟩
     have HFN:=hide hfin
     clear hfin hLk hl8 hH8 hb hg57 hg58
     go_wp2_with fail
     refine hO.mono ?_
     intro e w9 hp
     have hsp:=unhide HFN e w9 hp
     obtain ⟨he,_⟩:=hp
     subst he
     have HSP:=hide hsp
     clear hsp hO HFN
     go_wp2
     go_ret
     exact unhide HSP
    ·have f5:(q == 5)=false:=by simpa using h5
     have f6:(q == 6)=false:=by simp; omega
     have f7:(q == 7)=false:=by simp; omega
     have f8:(q == 8)=false:=by simp; omega
     have HG:=hide hgw
     clear hback hx hy hok hcn hLc hNc i1 i2 i3 i4 i5 i6 HB HLN HX HY HOK HCN hT' to1 HC hbp hflv a0 a1 a2 b0 b1 b3 b4 hpk2 hgc hgw
     go_wp2
     go_ret
     exact (unhide HW).idle (unhide HG)
set_option maxRecDepth 100000 in
set_option maxHeartbeats 1000000 in
theorem step_empty (T:Nat→Nat) (W k:Nat) (w:World) (hW:WAt T W [] k w) (q n:Int) (s:ByteArray) (fk:Int) (fao:Option Addr) (fn fc:Nat) (a:Int) (hq1:q≠1) (hq2:q≠2) :
  Calls Tryz.prog 33 #[.pointer (some ⟨W,0,none⟩),.agg #[.int .i64 q,.int .i64 n,.string s,.int .i64 fk,.slice fao fn fc,.int .i64 a]] w fun e w'=>StepPost T W k 0 w e w':=by
 have hgA:=World.grownBy_alloc w (.cells #[.int .i64 q,.int .i64 n,.string s,.int .i64 fk,.slice fao fn fc,.int .i64 a] 76) none
 have HW:=hide hW
 obtain ⟨nv,uv,fv,mv,k0,k1,k2,lv,us,fs,ms,ls,i1,i2,_⟩:=hW
 obtain ⟨na,nc,hnv⟩:=i2.row.1.slice
 have c0:w.cell? ⟨W,0,none⟩=some (.slice na 0 nc):=by rw [i1.blk.cell 0]; exact congrArg some hnv
 have a0:=hgA.cell c0 (by simp)
 have e1:(q == 1)=false:=by simpa using hq1
 have e2:(q == 2)=false:=by simpa using hq2
 clear i1 i2 hnv c0
 go_enter Tryz.func33,Tryz.ntmps33
 go_wp2
 go_ret
 exact (unhide HW).idle hgA
end Go.Proofs.YtolhbeekfjnfmaaGreatDoor
namespace Go.Proofs.YtolhbeekfjnfmaaGreatDoor
open Go.RowKit
def OpsG (ao:Option Addr) (len:Nat) (w:World):Prop:=
 ∀ k,k < len→∃ (g off:Nat) (q n:Int) (s:ByteArray) (f:Sv.Fact) (fao:Option Addr) (fc:Nat) (a:Int),ao=some ⟨g,off,none⟩∧s.size≤maxLen∧I64 n∧OpAt g (off+k * 6) q n s f.kind (.slice fao f.vals.length fc) a w∧InAt (.slice fao f.vals.length fc) f.vals w∧(f.vals≠[]→∀ b,(Value.slice fao f.vals.length fc).ownBlock=some b→b < w.heap.size)∧f.vals.length≤1048576
theorem step_any (T:Nat→Nat) (W:Nat) (nets:List Nt) (k:Nat) (w:World) (hW:WAt T W nets k w) (hk:k≤2000000) (hnl:nets.length≤k) (aT aL:Addr) (hL:LD aT aL w) (hP:3 < w.heap.size) (q n:Int) (hn:I64 n) (s:ByteArray) (hs:s.size≤maxLen) (f:Sv.Fact) (fao:Option Addr) (fc:Nat) (hf:InAt (.slice fao f.vals.length fc) f.vals w) (hf0:f.vals≠[]→∀ g,(Value.slice fao f.vals.length fc).ownBlock=some g→g < w.heap.size∧T g=0) (hfl:f.vals.length≤1048576) (a:Int) (hq5:q≤5) :
  ∃ m,m≤nets.length+1∧Calls Tryz.prog 33 #[.pointer (some ⟨W,0,none⟩),.agg #[.int .i64 q,.int .i64 n,.string s,.int .i64 f.kind,.slice fao f.vals.length fc,.int .i64 a]] w fun e w'=>StepPost T W k m w e w':=by
 by_cases h1:q=1
 ·subst h1
  refine ⟨nets.length,Nat.le_succ _,(step_plain W w aT aL hL hP s hs n f.kind a fao _ fc).mono ?_⟩
  rintro e w' ⟨rfl,hg⟩
  exact hW.idle hg
 ·by_cases h2:q=2
  ·subst h2
   refine ⟨_,?_,step_new T W nets k w hW hk hnl aT aL hL hP s hs n f.kind a fao _ fc⟩
   split<;>omega
  ·cases nets with
   | nil=>exact ⟨0,Nat.zero_le _,step_empty T W k w hW q n s f.kind fao _ fc a h1 h2⟩
   | cons x xs=>exact ⟨_,Nat.le_succ _,step_net T W (x :: xs) k w hW hk q n hn s f fao fc hf hf0 hfl a h1 h2 hq5 (by simp) hnl⟩
def PlayI (w:World) (W k m:Nat) (wr:World):Prop:=∃ T nets,WAt T W nets k wr∧nets.length=m∧w.grownBy wr none∧∀ j,j < w.heap.size→T j=0
theorem PlayI.next {w wr w':World} {W k m':Nat} {T:Nat→Nat} {e:Ending} (hg:w.grownBy wr none) (h0:∀ j,j < w.heap.size→T j=0) (hp:StepPost T W k m' wr e w'):e=.returned (.bool true)∧PlayI w W (k+1) m' w':=by
 obtain ⟨he,T',nets',j1,j2,j3,j4⟩:=hp
 refine ⟨he,T',nets',j1,j2,?_,fun j hj=>j4 j (Nat.lt_of_lt_of_le hj hg.size) (h0 j hj)⟩
 exact GrS.grown ((GrS.of hg (by simp):GrS (fun _=>False) w wr).comp j3 (fun i hi _ hx=>hx (h0 i hi))) (fun _ _ h=>h)
theorem PlayI.gr {w wr w':World} {W k m:Nat} (h:PlayI w W k m wr) (hg:wr.grownBy w' none):PlayI w W k m w':=by
 obtain ⟨T,nets,h1,h2,h3,h4⟩:=h
 exact ⟨T,nets,h1.gr (Nat.le_refl _) hg (fun _ _=>rfl),h2,gr_trans h3 hg,h4⟩
theorem PlayI.looks {w wr:World} {W k m:Nat} (h:PlayI w W k m wr):Calls Tryz.prog 34 #[.pointer (some ⟨W,0,none⟩)] wr fun e w'=>e=.returned (.bool true)∧PlayI w W k m w':=by
 have h0:=h
 obtain ⟨T,nets,⟨nv,uv,fv,mv,k0,k1,k2,lv,us,fs,ms,ls,i1,_⟩,_⟩:=h
 refine (looks_full T W nv uv fv mv k0 k1 k2 lv us fs ms ls wr i1.blk i1.nums i1.lent i1.facts i1.mats).mono ?_
 rintro e w' ⟨rfl,hg⟩
 exact ⟨rfl,h0.gr hg⟩
theorem PlayI.step {w wr:World} {W k m:Nat} (h:PlayI w W k m wr) (hk:k≤2000000) (hm:m≤k) (aT aL:Addr) (hL:LD aT aL w) (hP:3 < w.heap.size) (q n:Int) (hn:I64 n) (s:ByteArray) (hs:s.size≤maxLen) (f:Sv.Fact) (fao:Option Addr) (fc:Nat) (hf:InAt (.slice fao f.vals.length fc) f.vals wr) (hf0:f.vals≠[]→∀ g,(Value.slice fao f.vals.length fc).ownBlock=some g→g < w.heap.size) (hfl:f.vals.length≤1048576) (a:Int) (hq5:q≤5) :
  Calls Tryz.prog 33 #[.pointer (some ⟨W,0,none⟩),.agg #[.int .i64 q,.int .i64 n,.string s,.int .i64 f.kind,.slice fao f.vals.length fc,.int .i64 a]] wr fun e w'=>e=.returned (.bool true)∧∃ m',m'≤k+1∧PlayI w W (k+1) m' w':=by
 obtain ⟨T,nets,h1,h2,h3,h4⟩:=h
 obtain ⟨m',hm',hc⟩:=step_any T W nets k wr h1 hk (by omega) aT aL (hL.kept h3 hP) (Nat.lt_of_lt_of_le hP h3.size) q n hn s hs f fao fc hf (fun hne g hg=>⟨Nat.lt_of_lt_of_le (hf0 hne g hg) h3.size,h4 g (hf0 hne g hg)⟩) hfl a hq5
 refine hc.mono ?_
 intro e w' hp
 obtain ⟨he,hN⟩:=PlayI.next h3 h4 hp
 exact ⟨he,m',by omega,hN⟩
def Sv.exP:List UInt8:=[112,58,40,49,32,120,32,121,41,40,50,32,121,41,59]
def Sv.exPR:List Sv.Rule:=[⟨[112],[⟨false,1,[⟨1,120,0⟩,⟨1,121,0⟩]⟩,⟨false,2,[⟨1,121,0⟩]⟩]⟩]
theorem Sv.exP_net:Sv.netOf Sv.exP=.inr Sv.exPR:=by rfl
theorem play0 (w:World):PlayI w w.heap.size 0 0 (w.alloc (.cells #[.slice none 0 0,.slice none 0 0,.slice none 0 0,.slice none 0 0,.slice none 0 0,.slice none 0 0,.slice none 0 0,.slice none 0 0] 73)):=by
 have hg:=World.grownBy_alloc w (.cells #[.slice none 0 0,.slice none 0 0,.slice none 0 0,.slice none 0 0,.slice none 0 0,.slice none 0 0,.slice none 0 0,.slice none 0 0] 73) none
 have hx:=heap_alloc_new w (.cells #[.slice none 0 0,.slice none 0 0,.slice none 0 0,.slice none 0 0,.slice none 0 0,.slice none 0 0,.slice none 0 0,.slice none 0 0] 73)
 refine ⟨fun j=>if j=w.heap.size then 1 else 0,[],⟨.slice none 0 0,.slice none 0 0,.slice none 0 0,.slice none 0 0,.slice none 0 0,.slice none 0 0,.slice none 0 0,.slice none 0 0,[],[],[],[],⟨hx,by rw [if_pos rfl],⟨⟨RowAt.nil 0 _ (fun _=>rfl),by simp [Value.ownBlock]⟩,TRow.nil _ _ _ _ ienc_len _,by simp⟩,⟨⟨RowAt.nil 0 _ (fun _=>rfl),by simp [Value.ownBlock]⟩,by simp⟩,⟨⟨RowAt.nil 0 _ (fun _=>rfl),by simp [Value.ownBlock]⟩,TRow.nil _ _ _ _ ienc_len _,by simp⟩,⟨⟨RowAt.nil 0 _ (fun _=>rfl),by simp [Value.ownBlock]⟩,TRow.nil _ _ _ _ ienc_len _,by simp⟩⟩,⟨TRow.nil _ _ _ _ ntenc_len _,by simp⟩,by simp,by simp,by simp,by simp⟩,rfl,hg,fun j hj=>?_⟩
 dsimp only
 rw [if_neg (by omega)]
set_option maxRecDepth 100000 in
set_option maxHeartbeats 4000000 in
theorem playedG_w (w:World) (aT aL:Addr) (hL:LD aT aL w) (hP:3 < w.heap.size) (ao:Option Addr) (len cap:Nat) (hlen:len≤1048576) (hops:OpsG ao len w) :
  Calls Tryz.prog 14 #[.slice ao len cap,.int .i64 5] w fun e w'=>e=.returned (.bool true)∧w.grownBy w' none:=by
 have h0:=play0 w
 have hgA:=World.grownBy_alloc w (.cells #[.slice none 0 0,.slice none 0 0,.slice none 0 0,.slice none 0 0,.slice none 0 0,.slice none 0 0,.slice none 0 0,.slice none 0 0] 73) none
 have hLA:=hL.kept hgA hP
 have HO:=hide hops
 have H0:=hide h0
 clear hops h0
 have hS0:=step_plain w.heap.size _ aT aL hLA (by have:=hgA.size; omega) ⟨Sv.exP.toArray⟩ (by decide) 0 0 0 none 0 0
 unfold Sv.exP at hS0
 clear hgA hLA
 go_enter Tryz.func14,Tryz.ntmps14
 go_wp2_with fail
 refine hS0.mono ?_
 rintro e w1 ⟨rfl,hg1⟩
 have h1:=(unhide H0).gr hg1
 obtain ⟨T1,nets1,q1,q2,q3,q4⟩:=h1
 have hS1:=step_new T1 w.heap.size nets1 0 w1 q1 (by omega) (by omega) aT aL (hL.kept q3 hP) (Nat.lt_of_lt_of_le hP q3.size) ⟨Sv.exP.toArray⟩ (by decide) 0 0 0 none 0 0
 rw [show Sv.netOf (ByteArray.mk Sv.exP.toArray).data.toList=.inr Sv.exPR from Sv.exP_net,q2] at hS1
 simp only [Nat.zero_add] at hS1
 unfold Sv.exP at hS1
 have HQ:=hide (show w.grownBy w1 none∧∀ j,j < w.heap.size→T1 j=0 from ⟨q3,q4⟩)
 clear hS0 hg1 q1 q2 q3 q4 H0
 go_wp2_with fail
 refine hS1.mono ?_
 intro e w2 hp2
 obtain ⟨he2,hI2⟩:=PlayI.next (unhide HQ).1 (unhide HQ).2 hp2
 subst he2
 obtain ⟨T2,nets2,q1,q2,q3,q4⟩:=hI2
 have c0:∃ na nc,w2.cell? ⟨w.heap.size,0,none⟩=some (.slice na 1 nc):=by
  obtain ⟨nv,uv,fv,mv,k0,k1,k2,lv,us,fs,ms,ls,i1,i2,_⟩:=q1
  obtain ⟨na,nc,hnv⟩:=i2.row.1.slice
  rw [q2] at hnv
  exact ⟨na,nc,by rw [i1.blk.cell 0]; exact congrArg some hnv⟩
 obtain ⟨na,nc,c0⟩:=c0
 obtain ⟨T3,hT3⟩:∃ T3:Nat→Nat,T3=fun j=>if j < w2.heap.size then T2 j else 0:=⟨_,rfl⟩
 have to3:∀ j,j < w2.heap.size→T3 j=T2 j:=fun j hj=>by rw [hT3]; dsimp only; rw [if_pos hj]
 have tn3:∀ j,w2.heap.size≤j→T3 j=0:=fun j hj=>by rw [hT3]; dsimp only; rw [if_neg (by omega)]
 have hgL:=World.grownBy_alloc w2 (.cells #[.int .i64 6] 3) none
 have hS2:=step_net T3 w.heap.size nets2 1 _ (q1.gr (Nat.le_refl _) hgL to3) (by omega) 3 0 (by unfold I64; decide) ⟨#[]⟩ ⟨2,[6]⟩ (some ⟨w2.heap.size,0,none⟩) 1 (inAt_lit1 w2 6) (fun _ g hg=>by
  have e':w2.heap.size=g:=by simpa [Value.ownBlock] using hg
  subst e'
  exact ⟨by simp,tn3 _ (Nat.le_refl _)⟩) (by decide) 0 (by decide) (by decide) (by decide) (by omega) (by omega)
 rw [q2] at hS2
 replace hS2:Calls Tryz.prog 33 #[.pointer (some ⟨w.heap.size,0,none⟩),.agg #[.int .i64 3,.int .i64 0,.string ⟨#[]⟩,.int .i64 2,.slice (some ⟨w2.heap.size,0,none⟩) 1 1,.int .i64 0]] (w2.alloc (.cells #[.int .i64 6] 3)) fun e w'=>StepPost T3 w.heap.size 1 1 (w2.alloc (.cells #[.int .i64 6] 3)) e w':=hS2
 have HQ2:=hide (show w.grownBy (w2.alloc (.cells #[.int .i64 6] 3)) none∧∀ j,j < w.heap.size→T3 j=0 from ⟨gr_trans q3 hgL,fun j hj=>by rw [to3 j (Nat.lt_of_lt_of_le hj q3.size),q4 j hj]⟩)
 clear hS1 hp2 q1 q2 q3 q4 hgL to3 tn3 hT3 HQ
 go_wp2_with fail
 refine hS2.mono ?_
 intro e w3 hp3
 obtain ⟨he3,hI3⟩:=PlayI.next (unhide HQ2).1 (unhide HQ2).2 hp3
 subst he3
 have H3:=hide hI3
 clear hS2 hp3 hI3 HQ2 c0
 go_wp2
 go_loopw [6,7] (fun b z w'=>∃ (i m:Nat),i≤len∧b=.bool true∧z=.int .i64 i∧m≤i+2∧Hid (PlayI w w.heap.size (i+2) m w')) (fun _ z _=>len - (intOf z).toNat)
 case atStart=>exact ⟨0,1,Nat.zero_le _,rfl,rfl,by omega,H3⟩
 case round=>
  clear H3
  obtain ⟨i,m,hi,rfl,rfl,hm,HK⟩:=hrel
  by_cases hlt:i < len
  ·have hd:decide (i < len)=true:=by simpa using hlt
   obtain ⟨g,off,q,n,s,f,fao,fc,a,rfl,hsz,hn64,hop,hin,hb,hfl⟩:=unhide HO i hlt
   have hK:=unhide HK
   have hgr:w.grownBy wr none:=by obtain ⟨_,_,_,_,h,_⟩:=hK; exact h
   obtain ⟨o0,o1,o2,o3,o4,o5⟩:=hop.kept hgr
   by_cases hq:q≤5
   ·have hdq:decide (q≤5)=true:=by simpa using hq
    have hst:=hK.step (by omega) hm aT aL hL hP q n hn64 s hsz f fao fc (hin.gr hgr) hb hfl a hq
    obtain ⟨fl,hfl2⟩:∃ fl,f.vals.length=fl:=⟨_,rfl⟩
    rw [hfl2] at hst o4
    clear hop hin hb hK HK hgr hfl2 hfl hn64
    go_wp2_with fail
    refine hst.mono ?_
    rintro e w5 ⟨rfl,m',hm',hI5⟩
    have hLk:=hI5.looks
    clear hst hI5
    go_wp2_with fail
    refine hLk.mono ?_
    rintro e w6 ⟨rfl,hI6⟩
    have H6:=hide hI6
    clear hLk hI6
    go_wp2
    go_roundw
    case rel=>exact ⟨i+1,m',by omega,rfl,by go_num,by omega,by rw [show i+1+2=i+2+1 by omega]; exact H6⟩
    case measure=>simp [intOf]; omega
   ·have hdq:decide (q≤5)=false:=by simpa using hq
    have hLk:=hK.looks
    clear hop hin hb hK HK hgr
    go_wp2_with fail
    refine hLk.mono ?_
    rintro e w6 ⟨rfl,hI6⟩
    have hI7:PlayI w w.heap.size (i+1+2) m w6:=by
     obtain ⟨T9,nets9,j1,j2,j3,j4⟩:=hI6
     exact ⟨T9,nets9,j1.gr (by omega) (World.grownBy.refl _ _) (fun _ _=>rfl),j2,j3,j4⟩
    have H6:=hide hI7
    clear hLk hI6 hI7
    go_wp2
    go_roundw
    case rel=>exact ⟨i+1,m,by omega,rfl,by go_num,by omega,H6⟩
    case measure=>simp [intOf]; omega
  ·have hd:decide (i < len)=false:=by simpa using hlt
   go_wp2
   go_ret
   obtain ⟨_,_,_,_,hg,_⟩:=unhide HK
   exact ⟨rfl,hg⟩
set_option maxHeartbeats 400000 in
theorem grows_w (w:World) (aT aL:Addr) (hL:LD aT aL w) (hP:3 < w.heap.size) (ao:Option Addr) (len cap:Nat) (hlen:len≤1048576) (hops:OpsG ao len w) :
  Calls Tryz.prog 4 #[.slice ao len cap] w fun e w'=>e=.returned (.bool true)∧w.grownBy w' none:=by
 have hp:=playedG_w w aT aL hL hP ao len cap hlen hops
 clear hops hL hP
 go_enter Tryz.func4,Tryz.ntmps4
 go_wp2_with fail
 refine hp.mono ?_
 rintro e w1 ⟨rfl,hg1⟩
 go_wp2
 go_ret
 exact ⟨rfl,hg1⟩
end Go.Proofs.YtolhbeekfjnfmaaGreatDoor

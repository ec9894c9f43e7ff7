import Derived.Test.YtolhbeekfjnfmaaGreatDoorM38
namespace Go.Proofs.YtolhbeekfjnfmaaGreatDoor
open Go.RowKit
set_option maxRecDepth 100000 in
set_option maxHeartbeats 4000000 in
theorem adds_w (X:(Nat→Nat)→Nat→Nat→Sv.St→World→Prop) (hX:XSpec X) (T:Nat→Nat) (W:Nat) (nv uv fv mv k0 k1 k2 lv:Value) (us fs ms:List (Value×Int)) (ls:List Value) (w:World)
  (hLs:Lists T W nv uv fv mv k0 k1 k2 lv us fs ms ls w) (tx ty x y:Nat) (s:Sv.St) (htx:11≤tx) (hty:11≤ty) (htt:tx≠ty) (htx2:¬ InH tx) (hty2:¬ InH ty) (hx:X T tx x s w) (hy:YT T ty y s w) (hok:Sv.StOk s) (hcnt:s.cnt≤4611686018427387904)
  (f:Sv.Fact) (fa:Option Addr) (fc:Nat) (hf:InAt (.slice fa f.vals.length fc) f.vals w) (hf0:f.vals≠[]→∀ g,(Value.slice fa f.vals.length fc).ownBlock=some g→g < w.heap.size∧T g=0) (hfl:f.vals.length≤1048576) (hls:ls.length≤4398046511104) :
  Calls Tryz.prog 54 #[.pointer (some ⟨W,0,none⟩),.agg #[.pointer (some ⟨x,0,none⟩),.pointer (some ⟨y,0,none⟩)],.agg #[.int .i64 f.kind,.slice fa f.vals.length fc]] w fun e w'=>AddsPost X T W nv uv fv mv k0 k1 k2 us fs ms ls tx ty x y (s.add f).2 w e w':=by
 have hgA:=gr_al2 w (.cells #[.pointer (some ⟨x,0,none⟩),.pointer (some ⟨y,0,none⟩)] 106) (.cells #[.int .i64 f.kind,.slice fa f.vals.length fc] 37)
 obtain ⟨hP,hF⟩:=C2.al2 w (.pointer (some ⟨x,0,none⟩)) (.pointer (some ⟨y,0,none⟩)) (.int .i64 f.kind) (.slice fa f.vals.length fc) 106 37
 have hfA:=hf.gr hgA
 have HLS:=hide hLs
 have HX:=hide hx
 have HY:=hide hy
 have HOK:=hide hok
 have HF:=hide hf
 have HF0:=hide hf0
 have HC:=hide hcnt
 have HLL:=hide hls
 clear hLs hx hy hok hf hf0 hcnt hls
 obtain ⟨q0,q1⟩:=hF.c
 go_enter Tryz.func54,Tryz.ntmps54
 go_wp2_with (at_builtin; refine app_in rfl _ _ 35 rfl Tryz.underlying35 Tryz.infoInt rfl rfl (RowAt.nil (w.heap.size+2) _ ienc_len) rfl hfA (by unfold maxLen; simp; omega) (by simp; omega) (by simp) ?_)
 intro v1 w1 hv1 hg1
 have hg1':=gr_trans hgA (show World.grownBy _ w1 none from hg1)
 have hP1:=hP.kept hg1 (by simp [Value.ownBlock])
 have hF1:=hF.kept hg1 (by simp [Value.ownBlock])
 obtain ⟨a1,c1,rfl⟩:=hv1.slice
 have hs1:w.heap.size+2≤w1.heap.size:=by have:=hF1.lt; omega
 clear hgA hP hF hfA hg1 q0 q1
 go_wp2
 go_loopw [7,8] (fun v z w'=>∃ i:Nat,i≤8∧z=.int .i64 i∧IsAt (w.heap.size+2) v (f.vals ++ List.replicate i (-77)) w'∧w.grownBy w' none∧C2 106 w.heap.size (.pointer (some ⟨x,0,none⟩)) (.pointer (some ⟨y,0,none⟩)) w'∧C2 37 (w.heap.size+1) (.int .i64 f.kind) (.slice fa f.vals.length fc) w'∧w.heap.size+2≤w'.heap.size) (fun _ z _=>8 - (intOf z).toNat)
 case atStart=>exact ⟨0,by omega,rfl,by simpa using hv1,hg1',hP1,hF1,hs1⟩
 case round=>
  clear hv1 hg1' hP1 hF1 hs1
  obtain ⟨i,hi,rfl,hv,hg,hP,hF,hs⟩:=hrel
  obtain ⟨a2,c2,hv2⟩:=hv.slice
  have hvl:(f.vals ++ List.replicate i (-77:Int)).length=f.vals.length+i:=by rw [List.length_append,List.length_replicate]
  rw [hvl] at hv2
  subst hv2
  by_cases hlt:i < 8
  ·have hdi:decide ((i:Int) < 8)=true:=by simp; omega
   have hgB:=World.grownBy_alloc wr (.cells #[.int .i64 (-77)] 3) none
   have hvB:=hv.gr hgB
   have hsrc:IsAt 0 (.slice (some ⟨wr.heap.size,0,none⟩) 1 1) [-77] (wr.alloc (.cells #[.int .i64 (-77)] 3)):=(RowAt.lit1 ienc_len wr (-77) #[.int .i64 (-77)] rfl).weak (Nat.zero_le _)
   have hb1:(f.vals ++ List.replicate i (-77:Int)).length+([-77]:List Int).length≤maxLen:=by rw [hvl]; unfold maxLen; simp; omega
   have hb2:((f.vals ++ List.replicate i (-77:Int)).length+([-77]:List Int).length) * 8≤140737488355328:=by rw [hvl]; simp; omega
   have HB1:=hide hb1
   have HB2:=hide hb2
   have hso:=hvB.own
   have HSO:=hide hso
   have hsB:=Nat.le_trans hs hgB.size
   clear hb1 hb2 hso hvl
   go_wp2_with (at_builtin; refine app_row rfl _ _ 35 rfl Tryz.underlying35 Tryz.infoInt rfl (by decide) rfl hvB rfl hsrc (fun y _=>ienc_one y) (unhide HB1) (unhide HB2) hsB ?_)
   intro v3 w3 hv3 hg3
   have hP3:=(hP.kept hgB (by simp)).kept hg3 (fun e=>by have:=(unhide HSO _ e.symm).1; omega)
   have hF3:=(hF.kept hgB (by simp)).kept hg3 (fun e=>by have:=(unhide HSO _ e.symm).1; omega)
   have hg03:=gr_app (gr_trans hg hgB) hg3 (fun k hk=>by have:=(unhide HSO k hk).1; omega)
   have hv3':IsAt (w.heap.size+2) v3 (f.vals ++ List.replicate (i+1) (-77)) w3:=by
    have e:f.vals ++ List.replicate (i+1) (-77:Int)=f.vals ++ (List.replicate i (-77) ++ [-77]):=by rw [←List.replicate_succ']
    rw [e]; exact hv3
   have hs3:=Nat.le_trans hsB hg3.size
   obtain ⟨a3,c3,rfl⟩:=hv3'.slice
   have hvl3:(f.vals ++ List.replicate (i+1) (-77:Int)).length=f.vals.length+(i+1):=by rw [List.length_append,List.length_replicate]
   have HV3:=hide hv3'
   clear hv3 hg3 hv3' hsrc hvB hgB hvl3
   go_wp2
   go_roundw
   case rel=>exact ⟨i+1,by omega,by go_num,unhide HV3,hg03,hP3,hF3,hs3⟩
   case measure=>simp [intOf]; omega
  ·have hdi:decide ((i:Int) < 8)=false:=by simp; omega
   have hi8:i=8:=by omega
   subst hi8
   clear hi hlt
   obtain ⟨G,hGd⟩:∃ G,f.vals ++ List.replicate 8 (-77:Int)=G:=⟨_,rfl⟩
   obtain ⟨gb,cb,hvb,_⟩:=hv.cells (k:=f.vals.length) (a:=-77) (by rw [List.getElem?_append_right (Nat.le_refl _)]; simp)
   rw [hvl] at hvb
   simp only [Value.slice.injEq,true_and] at hvb
   obtain ⟨rfl,rfl⟩:=hvb
   have hpre:IsAt (w.heap.size+2) (.slice (some ⟨gb,0,none⟩) f.vals.length c2) f.vals wr:=hv.prefix
   have hgb:w.heap.size+2≤gb∧gb < wr.heap.size:=hv.own gb rfl
   have hcap:f.vals.length+8≤c2:=by
    rcases hv.2.2 with ⟨h1,_⟩ | ⟨g',cap',cur,h1,_,_,h3,_⟩
    ·simp at h1
    ·simp only [Value.slice.injEq] at h1
     rw [hvl] at h3
     omega
   rw [hGd] at hv
   obtain ⟨T1,hT1⟩:∃ T1:Nat→Nat,∀ k,T1 k=if k < w.heap.size then T k else if k=gb then 13 else 0:=⟨_,fun _=>rfl⟩
   have hT1o:∀ k,k < w.heap.size→T1 k=T k:=fun k hk=>by rw [hT1,if_pos hk]
   have hT1g:T1 gb=13:=by rw [hT1,if_neg (by omega),if_pos rfl]
   have hT1n:∀ k,w.heap.size≤k→k≠gb→T1 k=0:=fun k h1 h2=>by rw [hT1,if_neg (by omega),if_neg h2]
   have hadd:=fun (Z:World) (hZ:wr.grownBy Z none)=>hX.add T1 tx x s f (some ⟨gb,0,none⟩) c2 Z (by omega) (hX.keep (unhide HX) (GrS.of (S:=fun _=>False) (gr_trans hg hZ) (by simp)) (by simp) (fun k hk _=>hT1o k hk)) (unhide HOK) (unhide HC) ((hpre.weak (Nat.zero_le _)).gr hZ) (fun g hg e=>by simp only [Value.ownBlock,Option.some.injEq] at hg; subst hg; rw [hT1g] at e; exact htx2 ⟨by omega,by omega⟩)
   obtain ⟨R,hR⟩:∃ R,s.add f=R:=⟨_,rfl⟩
   rw [hR] at hadd
   have HR:=hide hR
   clear hR
   obtain ⟨⟨rid,rer⟩,s2⟩:=R
   simp only at hadd
   obtain ⟨p0,p1⟩:=hP.c
   obtain ⟨q0,q1⟩:=hF.c
   have HT1O:=hide hT1o
   have HT1G:=hide hT1g
   have HT1N:=hide hT1n
   have HGD:=hide hGd
   have HVL:=hide hvl
   clear hT1 hT1o hT1g hT1n hGd hvl hpre
   go_wp2_with fail
   go_cut [9,10] (fun a e wx=>a=.int .i64 rid∧e=.int .i64 rer∧GrS (fun k=>T1 k=tx) wr wx∧∃ T2,X T2 tx x s2 wx∧∀ k,k < wr.heap.size→T2 k=T1 k)
   case first=>
    go_region_with (go_at_call 18; refine (hadd _ (by repeat (first | with_reducible exact World.grownBy.refl _ _ | with_reducible apply gr_drew))).mono ?_; rintro e w4 ⟨rfl,hG4,hT4⟩)
    all_goals
     go_wp2_with fail
     go_meet
     exact ⟨rfl,rfl,(GrS.of (S:=fun k=>T1 k=tx) (gr_drew (World.grownBy.refl wr none)) (by simp)).trans hG4,hT4⟩
   case rest=>
    obtain ⟨rfl,rfl,hG4,T2,hX4,hT2⟩:=hcut
    have h13x:(13:Nat)≠tx:=fun e=>htx2 ⟨by omega,by omega⟩
    have ho1:=unhide HT1O
    have hn1:=unhide HT1N
    have hs0:=hg.size
    have hb0:T1 w.heap.size=0:=hn1 _ (Nat.le_refl _) (by omega)
    have hb1:T1 (w.heap.size+1)=0:=hn1 _ (by omega) (by omega)
    have hP4:=hP.grs hG4 (by rw [hb0]; omega)
    have hF4:=hF.grs hG4 (by rw [hb1]; omega)
    have hY4:YT T2 ty y s wc:=((unhide HY).keep (T':=T1) (GrS.of hg (by simp):GrS (fun _=>False) w wr) (by simp) (fun k hk _=>ho1 k hk)).keep hG4 (fun k hk e=>by rcases hk with hk | hk<;>omega) (fun k hk _=>hT2 k hk)
    have hfi4:=((unhide HF).gr hg).grs' hG4 (fun hne g hg' e=>by obtain ⟨k1,k2⟩:=unhide HF0 hne g hg'; rw [ho1 g k1,k2] at e; omega)
    have hYA:=yAdd_w T2 ty y s f fa fc wc (by omega) hY4 (unhide HOK) (unhide HC) hfi4 (fun hne g hg' e=>by obtain ⟨k1,k2⟩:=unhide HF0 hne g hg'; rw [hT2 g (by omega),ho1 g k1,k2] at e; omega)
    rw [unhide HR] at hYA
    simp only at hYA
    have hmid:=fun (w5:World) (T3:Nat→Nat) (hG5:GrS (fun k=>T2 k=ty) wc w5) (hY5:YT T3 ty y s2 w5) (hT3:∀ k,k < wc.heap.size→T3 k=T2 k)=>AddMid.one hX (unhide HLS) htx hty htt htx2 hty2 hg ho1 (unhide HT1G) hn1 hgb (by rw [unhide HGD]; exact hv) (unhide HF) (unhide HF0) hF hG4 hX4 hT2 hG5 hY5 hT3
    have HMID:=hide hmid
    obtain ⟨p0',p1'⟩:=hP4.c
    obtain ⟨q0',q1'⟩:=hF4.c
    clear hmid hY4 hfi4 hX4 hT2 hG4 hb0 hb1 hP4 hF4 hP hF p0 p1 q0 q1 hadd hv hcap ho1 hn1 hs0
    go_wp2_with fail
    refine hYA.mono ?_
    rintro e w5 ⟨rfl,hG5,T3,hY5,hT3⟩
    have hM:=unhide HMID w5 T3 hG5 hY5 hT3
    obtain ⟨n,hn⟩:∃ n,f.vals.length=n:=⟨_,rfl⟩
    have HM:=hide hM
    have HN:=hide hn
    have hn2:n≤1048576:=by omega
    have h0:w5.grownBy w5 (some gb)∧IsAt (w.heap.size+2) (.slice (some ⟨gb,0,none⟩) (n+8) c2) (List.replicate 0 (-99) ++ (f.vals ++ List.replicate 8 (-77)).drop 0) w5:=⟨World.grownBy.refl _ _,by have:=hM.row; rw [hn] at this; simpa using this⟩
    have H0:=hide h0
    rw [hn] at q1'
    clear hYA HMID hG5 hY5 hT3 hM p0' p1' q0' q1' h0 HF HLS HX HY HOK HC HT1O HT1G HT1N HGD HVL hgb hg
    rw [hn]
    clear hn hfl
    go_wp2
    go_loopw [13,14] (fun b z w'=>∃ i:Nat,i≤n+8∧b=.bool true∧z=.int .i64 i∧Hid (w5.grownBy w' (some gb)∧IsAt (w.heap.size+2) (.slice (some ⟨gb,0,none⟩) (n+8) c2) (List.replicate i (-99) ++ (f.vals ++ List.replicate 8 (-77)).drop i) w')) (fun _ z _=>n+8 - (intOf z).toNat)
    case atStart=>exact ⟨0,Nat.zero_le _,rfl,rfl,H0⟩
    case round=>
     clear H0
     obtain ⟨i,hi,rfl,rfl,HK⟩:=hrel
     obtain ⟨hgi,hri⟩:=unhide HK
     have hM:=unhide HM
     have hnn:=unhide HN
     have hge:=hM.ge
     have hF5:=hM.fb.kept hgi (fun e=>by simp at e; omega)
     obtain ⟨q0,q1⟩:=hF5.c
     rw [hnn] at q1
     by_cases hlt:i < n+8
     ·have hdi:decide ((i:Int) < (n:Int)+8)=true:=by simp; omega
      have hdj:decide (i < n+8)=true:=by simpa using hlt
      obtain ⟨x,hx⟩:∃ x,(f.vals ++ List.replicate 8 (-77:Int))[i]?=some x:=⟨_,List.getElem?_eq_getElem (by simp; omega)⟩
      have hx2:(List.replicate i (-99:Int) ++ (f.vals ++ List.replicate 8 (-77)).drop i)[i]?=some x:=by
       rw [List.getElem?_append_right (by simp),List.length_replicate,Nat.sub_self,List.getElem?_drop,Nat.add_zero]
       exact hx
      obtain ⟨g',cp',hvv,hcs⟩:=hri.cells hx2
      simp only [Value.slice.injEq,Option.some.injEq,Addr.mk.injEq,and_true] at hvv
      obtain ⟨rfl,hzz,rfl⟩:=hvv
      clear hzz
      have x0:wr.cell? ⟨gb,i,none⟩=some (.int .i64 x):=by have:=hcs 0 (by omega); simpa [ienc] using this
      have z0:=hri.fz i
      have hst:=hri.stored i (-99)
      rw [rep_set (-99) _ i (by simp; omega)] at hst
      have hN:w5.grownBy (wr.setCell ⟨gb,i,none⟩ (.int .i64 (-99))) (some gb)∧IsAt (w.heap.size+2) (.slice (some ⟨gb,0,none⟩) (n+8) c2) (List.replicate (i+1) (-99) ++ (f.vals ++ List.replicate 8 (-77)).drop (i+1)) (wr.setCell ⟨gb,i,none⟩ (.int .i64 (-99))):=⟨gr_trans hgi (gr_set wr gb i (.int .i64 (-99))),hst⟩
      have HNX:=hide hN
      have hxx:(x == x)=true:=by simp
      by_cases hin:i < n
      ·have hdn:decide ((i:Int) < (n:Int))=true:=by simp; omega
       have hdm:decide (i < n)=true:=by simpa using hin
       rw [List.getElem?_append_left (by omega)] at hx
       obtain ⟨fg,fo,hfa,hfc⟩:∃ fg fo,fa=some ⟨fg,fo,none⟩∧wr.cell? ⟨fg,fo+i,none⟩=some (.int .i64 x):=by
        rcases hM.fin with ⟨_,h2⟩ | ⟨a,cp,h1,_,h3⟩
        ·rw [h2] at hx; simp at hx
        ·obtain ⟨fg,fo,e1,e2⟩:=h3 i x hx
         simp only [Value.slice.injEq] at h1
         have hb:(Value.slice fa f.vals.length fc).ownBlock=some fg:=by rw [h1.1,e1]; rfl
         have hlo:=(unhide HF0 (by intro h0; rw [h0] at hx; simp at hx) fg hb).1
         exact ⟨fg,fo,by rw [h1.1,e1],hgi.cell e2 (fun e=>by simp at e; omega)⟩
       subst hfa
       clear hcs hx hx2 hN hst hri hM hF5 HK hnn HM
       go_wp2
       go_roundw
       case rel=>exact ⟨i+1,by omega,rfl,by go_num,HNX⟩
       case measure=>simp [intOf]; omega
      ·have hdn:decide ((i:Int) < (n:Int))=false:=by simp; omega
       have hdm:decide (i < n)=false:=by simpa using hin
       rw [List.getElem?_append_right (by omega),List.getElem?_replicate] at hx
       have hx3:x=-77:=by
        split at hx
        ·simpa using hx.symm
        ·cases hx
       subst hx3
       clear hcs hx hx2 hN hst hri hM hF5 HK hnn HM
       go_wp2
       go_roundw
       case rel=>exact ⟨i+1,by omega,rfl,by go_num,HNX⟩
       case measure=>simp [intOf]; omega
     ·have hdi:decide ((i:Int) < (n:Int)+8)=false:=by simp; omega
      have hdj:decide (i < n+8)=false:=by simpa using hlt
      have hin:i=n+8:=by omega
      have hr6:IsAt (w.heap.size+2) (.slice (some ⟨gb,0,none⟩) (f.vals.length+8) c2) (List.replicate (f.vals.length+8) (-99)) wr:=by
       rw [hnn]
       rw [hin,List.drop_of_length_le (by simp; omega),List.append_nil] at hri
       exact hri
      obtain ⟨la,lc,hlv⟩:=hM.lists.lent.1.1.slice
      have htg:=hM.tg
      have hWb:=hM.lists.blk.gr hgi (fun e=>by
       have e':gb=W:=by simpa using e
       have:=hM.lists.own
       rw [←e',htg] at this
       cases this)
      have c7:wr.cell? ⟨W,7,none⟩=some (.slice la ls.length lc):=by rw [hWb.cell 7,←hlv]; rfl
      have hrl:RowAt 35 1 (fun v:Value=>[v]) 0 (.slice la ls.length lc) ls wr:=by
       rw [←hlv]
       exact hM.lists.lent.1.1.other hgi (fun g hg e=>by
        have e':gb=g:=by simpa using e
        have:=hM.lists.lent.1.2 g hg
        rw [←e',htg] at this
        cases this)
      have hg7:=World.grownBy_alloc wr (.cells #[.slice (some ⟨gb,0,none⟩) (n+8) c2] 35) none
      have hr7:=hrl.gr hg7
      have hsrc:RowAt 35 1 (fun v:Value=>[v]) 0 (.slice (some ⟨wr.heap.size,0,none⟩) 1 1) [Value.slice (some ⟨gb,0,none⟩) (n+8) c2] (wr.alloc (.cells #[.slice (some ⟨gb,0,none⟩) (n+8) c2] 35)):=(RowAt.lit1 (e:=35) (enc:=fun v:Value=>[v]) (fun _=>rfl) wr (Value.slice (some ⟨gb,0,none⟩) (n+8) c2) #[.slice (some ⟨gb,0,none⟩) (n+8) c2] rfl).weak (Nat.zero_le _)
      have hdone:=fun (v':Value) (w8:World) (a b:Nat) (hl:Longer (.slice la ls.length lc) v' a b (wr.alloc (.cells #[.slice (some ⟨gb,0,none⟩) (n+8) c2] 35)) w8) (hr:RowAt 35 1 (fun v:Value=>[v]) 0 v' (ls ++ [.slice (some ⟨gb,0,none⟩) (n+8) c2]) w8)=>AddMid.done hX hM htx hty htx2 hty2 hgi hr6 hg7 (by rw [hlv]; exact hl) (by rw [hnn]; exact hr)
      rw [hlv] at hdone
      have HDONE:=hide hdone
      have hll:=unhide HLL
      have hb1:ls.length + [Value.slice (some ⟨gb,0,none⟩) (n+8) c2].length≤maxLen:=by unfold maxLen; simp; omega
      have hb2:(ls.length + [Value.slice (some ⟨gb,0,none⟩) (n+8) c2].length) * 24≤140737488355328:=by simp; omega
      have HB1:=hide hb1
      have HB2:=hide hb2
      clear hdone hrl hWb hr6 hri hM hF5 HK hnn HM hlv htg hg7 hll hb1 hb2 q0 q1
      go_wp2_with (first
       | (at_builtin; refine app_two rfl _ _ 68 rfl Tryz.underlying68 Tryz.infosInt rfl (by decide) rfl hr7 rfl hsrc (by simp) (fun y hy=>by simp only [List.mem_singleton] at hy; subst hy; intro c hc; simp at hc; subst hc; rfl) (unhide HB1) (unhide HB2) ?_)
       | (go_at_call 51; refine (num_w _ _).mono ?_; rintro e w' ⟨rfl,rfl⟩))
      intro v8 w8 hv8 hl8
      obtain ⟨⟨y8,yf8⟩,hAP⟩:=unhide HDONE v8 w8 _ _ hl8 hv8
      obtain ⟨g8,cap8,rfl⟩:=hl8.form
      have HAP:=hide hAP
      have e1:(rid == rid)=true:=by simp
      have e2:(rer == rer)=true:=by simp
      clear hAP hv8 hl8 HDONE hr7 hsrc c7
      go_wp2_with fail
      refine (num_w _ _).mono ?_
      rintro e w9 ⟨rfl,hw9⟩
      rw [hw9]
      clear hw9
      go_wp2_with fail
      refine (num_w _ _).mono ?_
      rintro e w10 ⟨rfl,hw10⟩
      rw [hw10]
      clear hw10
      go_wp2
      go_ret
      rw [unhide HR]
      exact unhide HAP
end Go.Proofs.YtolhbeekfjnfmaaGreatDoor

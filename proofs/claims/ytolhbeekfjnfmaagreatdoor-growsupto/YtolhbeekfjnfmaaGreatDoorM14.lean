import Derived.Test.YtolhbeekfjnfmaaGreatDoorM13
import Derived.Test.YtolhbeekfjnfmaaGreatDoorM06
namespace Go.Proofs.YtolhbeekfjnfmaaGreatDoor
open Go.RowKit
def OwnFPost (T:Nat→Nat) (W:Nat) (nv ov ko lv:Value) (us:List (Value×Int)) (fs:List (Value×Int)) (n:Nat) (w:World) (e:Ending) (w':World):Prop:=
 e=.returned (.tuple #[])∧∃ T' uv' k0' us' xv' kx' fs',WBlk W #[nv,uv',xv',ov,k0',kx',ko,lv] w'∧NumsAt T' uv' k0' us' w'∧ElsAt 4 7 47 37 T' xv' kx' fs' w'∧us'.length=us.length+4 * n∧fs'.length=fs.length+4∧
  GrS (fun k=>T k=1∨T k=3∨T k=6∨T k=4∨T k=7∨InH (T k)) w w'∧∀ k,k < w.heap.size→¬ InH (T k)→T' k=T k
set_option maxRecDepth 100000 in
set_option maxHeartbeats 4000000 in
theorem ownF_w (T:Nat→Nat) (W:Nat) (nv uv xv ov k0 kx ko lv:Value) (us fs:List (Value×Int)) (v:Value) (xs:List VFt) (w:World)
  (hW:WBlk W #[nv,uv,xv,ov,k0,kx,ko,lv] w) (hTW:T W=1) (hN:NumsAt T uv k0 us w) (hE:ElsAt 4 7 47 37 T xv kx fs w) (hH:Hand T 37 v xs w) (hul:us.length+4 * xs.length≤4398046511104) (hfl:fs.length≤4398046511104) (hxl:xs.length≤1000000) :
  Calls Tryz.prog 83 #[.pointer (some ⟨W,0,none⟩),v] w fun e w'=>OwnFPost T W nv ov ko lv us fs xs.length w e w':=by
 obtain ⟨aoV,capV,rfl⟩:=hH.row.1.slice
 have hWlt:W < w.heap.size:=row_lt hW
 have HH:=hide hH
 have HE:=hide hE
 have HN:=hide hN
 have HW:=hide hW
 have HUL:=hide hul
 have HFL:=hide hfl
 clear hH hE hN hW hul hfl
 go_enter Tryz.func83,Tryz.ntmps83
 go_wp2
 go_loopw [4] (fun z w'=>∃ (i:Nat) (T1:Nat→Nat) (uv1 k01:Value) (us1:List (Value×Int)),i≤xs.length∧z=.int .i64 i∧WBlk W #[nv,uv1,xv,ov,k01,kx,ko,lv] w'∧NumsAt T1 uv1 k01 us1 w'∧us1.length=us.length+4 * i∧GrS (Sd T i) w w'∧∀ k,k < w.heap.size→(∀ j,j < i→T k≠13+3 * (j+1))→T1 k=T k) (fun z _=>xs.length - (intOf z).toNat)
 case atStart=>exact ⟨0,T,uv,k0,us,Nat.zero_le _,rfl,unhide HW,unhide HN,rfl,GrS.refl _ _,fun _ _ _=>rfl⟩
 case round=>
  obtain ⟨i,T1,uv1,k01,us1,hi,rfl,hW1,hN1,hu1,hG1,hT1⟩:=hrel
  by_cases hlt:i < xs.length
  ·have hdi:decide (i < xs.length)=true:=by simpa using hlt
   obtain ⟨x,hx⟩:∃ x,xs[i]?=some x:=⟨xs[i],List.getElem?_eq_getElem hlt⟩
   have hrow:=hG1.row (unhide HH).row.1 (fun g hg=>by have:=(unhide HH).row.2 g hg; exact Sd_13 this)
   obtain ⟨g,cp,hvv,hcs⟩:=hrow.cells hx
   simp only [Value.slice.injEq,true_and] at hvv
   obtain ⟨rfl,rfl⟩:=hvv
   have x1:wr.cell? ⟨g,i * 2+1,none⟩=some x.v:=hcs 1 (by omega)
   obtain ⟨hxr,hxle⟩:=(unhide HH).els i x hx
   have hxr1:TRow T1 (13+3 * (i+1)) 3 1 ienc x.v x.vals wr:=hxr.keep2 hG1 (fun k hk=>Sd_no hk) (fun k hk hk2=>by rw [hT1 k hk (fun j hj=>by omega)]; exact hk2)
   obtain ⟨xa,xc,hxv⟩:=hxr1.1.slice
   have hTW1:T1 W=1:=by rw [hT1 W hWlt (fun j hj=>by omega)]; exact hTW
   have hO:=ownN_w T1 (13+3 * (i+1)) W nv uv1 xv ov k01 kx ko lv us1 x.v x.vals wr hW1 hTW1 hN1 hxr1 (by omega) (by have:=unhide HUL; omega) hxle
   rw [hxv] at x1 hO
   have HU1:=hide hu1
   have HG1:=hide hG1
   have HT1:=hide hT1
   clear hrow hcs hx hxr hxle hxr1 hxv hu1 hG1 hT1 hN1 hW1 hTW1
   go_wp2_with fail
   refine hO.mono ?_
   rintro e w2 ⟨rfl,T2,uv2,k02,us2,hW2,hN2,hu2,hG2,hT2⟩
   have hG02:GrS (Sd T (i+1)) w w2:=by
    refine ((unhide HG1).mono (fun k hk=>Sd_succ hk)).comp hG2 (fun k hk hn=>?_)
    have h1:=unhide HT1 k hk (fun j hj e=>hn (.inr (.inr (.inr ⟨j,by omega,e⟩))))
    rw [h1]
    rintro (h | h | h | h)
    ·exact hn (.inl h)
    ·exact hn (.inr (.inl h))
    ·exact hn (.inr (.inr (.inl h)))
    ·exact hn (.inr (.inr (.inr ⟨i,by omega,h⟩)))
   have hT02:∀ k,k < w.heap.size→(∀ j,j < i+1→T k≠13+3 * (j+1))→T2 k=T k:=by
    intro k hk hn
    have h1:=unhide HT1 k hk (fun j hj=>hn j (by omega))
    rw [hT2 k (Nat.lt_of_lt_of_le hk (unhide HG1).size) (by rw [h1]; exact hn i (by omega)),h1]
   have HR:=hide (show WBlk W #[nv,uv2,xv,ov,k02,kx,ko,lv] w2∧NumsAt T2 uv2 k02 us2 w2∧us2.length=us.length+4 * (i+1)∧GrS (Sd T (i+1)) w w2∧∀ k,k < w.heap.size→(∀ j,j < i+1→T k≠13+3 * (j+1))→T2 k=T k from ⟨hW2,hN2,by have:=unhide HU1; omega,hG02,hT02⟩)
   clear hO hW2 hN2 hu2 hG2 hT2 hG02 hT02 HU1 HG1 HT1
   go_wp2
   go_roundw
   case rel=>exact ⟨i+1,T2,uv2,k02,us2,by omega,by go_num,unhide HR⟩
   case measure=>simp [intOf]; omega
  ·have hdi:decide (i < xs.length)=false:=by simpa using hlt
   have hie:i=xs.length:=by omega
   have hG1':GrS (Sd T xs.length) w wr:=by rw [←hie]; exact hG1
   have hT1':∀ k,k < w.heap.size→(∀ j,j < xs.length→T k≠13+3 * (j+1))→T1 k=T k:=by rw [←hie]; exact hT1
   have hu1':us1.length=us.length+4 * xs.length:=by rw [←hie]; exact hu1
   have hTW1:T1 W=1:=by rw [hT1' W hWlt (fun j hj=>by omega)]; exact hTW
   have hV1:TRow T1 13 37 2 ftenc (.slice aoV xs.length capV) xs wr:=(unhide HH).row.keep2 hG1' (fun k hk=>Sd_13 hk) (fun k hk hk2=>by rw [hT1' k hk (fun j hj=>by omega)]; exact hk2)
   have hE1:ElsAt 4 7 47 37 T1 xv kx fs wr:=by
    obtain ⟨e1,e2,e3⟩:=unhide HE
    refine ⟨e1.keep2 hG1' (fun k hk=>Sd_small hk (by decide)) (fun k hk hk2=>by rw [hT1' k hk (fun j hj=>by omega)]; exact hk2),e2.keep2 hG1' (fun k hk=>Sd_small hk (by decide)) (fun k hk hk2=>by rw [hT1' k hk (fun j hj=>by omega)]; exact hk2),fun p hp=>?_⟩
    obtain ⟨n,hn⟩:=e3 p hp
    exact ⟨n,hn.keep2 hG1' (fun k hk=>Sd_small hk (by decide)) (fun k hk hk2=>by rw [hT1' k hk (fun j hj=>by omega)]; exact hk2)⟩
   have HU1:=hide hu1'
   have HG1:=hide hG1'
   have HT1:=hide hT1'
   have HN1:=hide hN1
   clear hu1 hG1 hT1 hie hG1' hT1' hu1' hN1 HH HE HN HW hlt hi hTW
   obtain ⟨wo,rfl⟩:∃ wo:World,wo=wr:=⟨_,rfl⟩
   obtain ⟨hE11,hE12,hE13⟩:=hE1
   obtain ⟨aoK,capK,hkx⟩:=hE12.1.slice
   rw [List.length_map] at hkx
   have cK:wo.cell? ⟨W,5,none⟩=some (.slice aoK fs.length capK):=by rw [hW1.cell 5,hkx]; rfl
   obtain ⟨m,hm⟩:∃ m:Int,m=-1 - (fs.length:Int):=⟨_,rfl⟩
   have hltV:=hV1.1.own
   have hWlt1:W < wo.heap.size:=row_lt hW1
   have hfl:=unhide HFL
   have HV:=hide hV1
   have HE11:=hide hE11
   have HE12:=hide hE12
   have HE13:=hide hE13
   have HW:=hide hW1
   have HK0:=hide hkx
   have HM:=hide hm
   have HLT:=hide hltV
   clear hV1 hE11 hE12 hE13 hW1 hkx hm hltV
   go_wp2
   rw [←unhide HM]
   clear hfl cK
   have hNA:=World.grownBy_alloc wo (.cells #[.int .i64 m,.slice none 0 0] 37) none
   have hN6:C2 37 wo.heap.size (.int .i64 m) (.slice none 0 0) (wo.alloc (.cells #[.int .i64 m,.slice none 0 0] 37)):=heap_alloc_new _ _
   go_loopw [7] (fun z w'=>∃ i2:Nat,i2≤xs.length∧z=.int .i64 i2∧GrS (fun k=>T1 k=13) wo w'∧RowAt 37 2 ftenc 0 (.slice aoV xs.length capV) (List.replicate i2 (⟨m,.slice none 0 0,[]⟩:VFt) ++ xs.drop i2) w'∧C2 37 wo.heap.size (.int .i64 m) (.slice none 0 0) w'∧wo.heap.size+1≤w'.heap.size) (fun z _=>xs.length - (intOf z).toNat)
   case atStart=>exact ⟨0,Nat.zero_le _,rfl,GrS.of hNA (by simp),by simpa using (unhide HV).1.gr hNA,hN6,by simp⟩
   case round=>
    clear hNA hN6
    obtain ⟨i2,hi2,rfl,hG,hR,hF,hws⟩:=hrel
    obtain ⟨f0,f1⟩:=hF.c
    by_cases hlt2:i2 < xs.length
    ·have hdi2:decide (i2 < xs.length)=true:=by simpa using hlt2
     obtain ⟨x,hx⟩:∃ x,(List.replicate i2 (⟨m,.slice none 0 0,[]⟩:VFt) ++ xs.drop i2)[i2]?=some x:=⟨_,List.getElem?_eq_getElem (by simp; omega)⟩
     obtain ⟨g,cp,hvv,hcs⟩:=hR.cells hx
     simp only [Value.slice.injEq] at hvv
     obtain ⟨rfl,hzz,rfl⟩:=hvv
     clear hzz
     have x0:wr.cell? ⟨g,i2 * 2,none⟩=some (.int .i64 x.kind):=hcs 0 (by omega)
     have x1:wr.cell? ⟨g,i2 * 2+1,none⟩=some x.v:=hcs 1 (by omega)
     have z0:=hR.fz (i2 * 2)
     have z1:=hR.fz (i2 * 2+1)
     have hTg:T1 g=13:=(unhide HV).2 g rfl
     have hgl:g < wo.heap.size:=(unhide HLT g rfl).2
     have hR2:=FtsAt.stored hR i2 ⟨m,.slice none 0 0,[]⟩ (by simp; omega)
     rw [rep_setG _ xs i2 hlt2] at hR2
     have hgs:=gr_set2o wr g (i2 * 2) (i2 * 2+1) (.int .i64 m) (.slice none 0 0)
     have hG2:=hG.then hgs (fun k hk=>by simp at hk; subst hk; exact .inr hTg)
     have hF2:=hF.kept hgs (by simp; omega)
     have HR2:=hide hR2
     have HG2:=hide hG2
     have HF2:=hide hF2
     have hws2:=Nat.le_trans hws hgs.size
     clear hcs hx hR hG hTg hR2 hG2 hF2 hgs hF
     go_wp2
     go_roundw
     case rel=>exact ⟨i2+1,by omega,by go_num,unhide HG2,unhide HR2,unhide HF2,hws2⟩
     case measure=>simp [intOf]; omega
    ·have hdi2:decide (i2 < xs.length)=false:=by simpa using hlt2
     have e1:List.replicate i2 (⟨m,.slice none 0 0,[]⟩:VFt) ++ xs.drop i2=List.replicate xs.length (⟨m,.slice none 0 0,[]⟩:VFt):=by
      rw [List.drop_of_length_le (by omega),List.append_nil]
      congr 1
      omega
     rw [e1] at hR
     clear e1 hlt2 hi2
     generalize hnn:xs.length=n at *
     have hgA:=World.grownBy_alloc wr (.cells #[.int .i64 m,.slice none 0 0] 37) none
     have hs1:RowAt 37 2 ftenc 0 (.slice (some ⟨wr.heap.size,0,none⟩) 1 1) (List.replicate 1 (⟨m,.slice none 0 0,[]⟩:VFt)) (wr.alloc (.cells #[.int .i64 m,.slice none 0 0] 37)):=(RowAt.litn ftenc_len wr (List.replicate 1 (⟨m,.slice none 0 0,[]⟩:VFt)) #[.int .i64 m,.slice none 0 0] rfl (by simp [maxLen])).weak (Nat.zero_le _)
     have hRA:=hR.gr hgA
     go_wp2_with (at_builtin; refine app_two rfl _ _ 47 rfl Tryz.underlying47 Tryz.infoFact rfl (by decide) rfl hRA rfl hs1 (by simp) (fun y hy=>ftenc_one y (by rw [List.eq_of_mem_replicate hy]; rfl)) (by unfold maxLen; simp; omega) (by simp; omega) ?_)
     intro v1 w1 hv1 hl1
     obtain ⟨g1,cap1,rfl⟩:=hl1.form
     have hF1:C2 37 wo.heap.size (.int .i64 m) (.slice none 0 0) w1:=hl1.block (hF.kept hgA (by simp)) (fun e=>by have:=(unhide HLT _ e).2; omega)
     obtain ⟨f10,f11⟩:=hF1.c
     have hv1':RowAt 37 2 ftenc 0 (.slice (some ⟨g1,0,none⟩) (n+1) cap1) (List.replicate (n+1) (⟨m,.slice none 0 0,[]⟩:VFt)) w1:=by have:=hv1; rw [←rep_snocG n (⟨m,.slice none 0 0,[]⟩:VFt) 1]; exact this
     have hltW:∀ g,(Value.slice aoV n capV).ownBlock=some g→g < (wr.alloc (.cells #[.int .i64 m,.slice none 0 0] 37)).heap.size:=fun g hg=>Nat.lt_of_lt_of_le (unhide HLT g hg).2 (Nat.le_trans hG.size hgA.size)
     have hkin1:=hl1.kin hltW
     have hR1:RowAt 37 2 ftenc 0 (.slice aoV n capV) (List.replicate (n+0) (⟨m,.slice none 0 0,[]⟩:VFt)) w1:=Kin.keepG (v:=.slice aoV n capV) (v1:=.slice aoV n capV) (j:=0) (kin_selfG _ _ hR) hRA hv1' hl1 (Nat.zero_le _)
     have hGB:=(hG.then hgA (by simp)).trans (hl1.gr (fun g hg=>(unhide HV).2 g hg))
     have hown1:=hl1.own
     have HSZ0:wo.heap.size≤(wr.alloc (.cells #[.int .i64 m,.slice none 0 0] 37)).heap.size:=Nat.le_trans hG.size hgA.size
     have hgB:=World.grownBy_alloc w1 (.cells #[.int .i64 m,.slice none 0 0,.int .i64 m,.slice none 0 0] 37) none
     have hs2:RowAt 37 2 ftenc 0 (.slice (some ⟨w1.heap.size,0,none⟩) 2 2) (List.replicate 2 (⟨m,.slice none 0 0,[]⟩:VFt)) (w1.alloc (.cells #[.int .i64 m,.slice none 0 0,.int .i64 m,.slice none 0 0] 37)):=(RowAt.litn ftenc_len w1 (List.replicate 2 (⟨m,.slice none 0 0,[]⟩:VFt)) #[.int .i64 m,.slice none 0 0,.int .i64 m,.slice none 0 0] rfl (by simp [maxLen])).weak (Nat.zero_le _)
     have hRB:=hR1.gr hgB
     have hvB:=hv1'.gr hgB
     have HK1:=hide hkin1
     have HOW1:=hide hown1
     clear hgA hs1 hRA hv1 hl1 hR1 hR hG hltW hkin1 hown1 hv1'
     go_wp2_with (at_builtin; refine app_two rfl _ _ 47 rfl Tryz.underlying47 Tryz.infoFact rfl (by decide) rfl hRB rfl hs2 (by simp) (fun y hy=>ftenc_one y (by rw [List.eq_of_mem_replicate hy]; rfl)) (by unfold maxLen; simp; omega) (by simp; omega) ?_)
     intro v2 w2 hv2 hl2
     obtain ⟨g2,cap2,rfl⟩:=hl2.form
     have hF2:C2 37 wo.heap.size (.int .i64 m) (.slice none 0 0) w2:=hl2.block (hF1.kept hgB (by simp)) (fun e=>by have:=(unhide HLT _ e).2; omega)
     obtain ⟨f20,f21⟩:=hF2.c
     have hv2':RowAt 37 2 ftenc 0 (.slice (some ⟨g2,0,none⟩) (n+2) cap2) (List.replicate (n+2) (⟨m,.slice none 0 0,[]⟩:VFt)) w2:=by have:=hv2; rw [←rep_snocG n (⟨m,.slice none 0 0,[]⟩:VFt) 2]; exact this
     have hltW:∀ g,(Value.slice aoV n capV).ownBlock=some g→g < (w1.alloc (.cells #[.int .i64 m,.slice none 0 0,.int .i64 m,.slice none 0 0] 37)).heap.size:=fun g hg=>Nat.lt_of_lt_of_le (unhide HLT g hg).2 (Nat.le_trans hGB.size hgB.size)
     have hkin2:=hl2.kin hltW
     have hR2:RowAt 37 2 ftenc 0 (.slice aoV n capV) (List.replicate (n+0) (⟨m,.slice none 0 0,[]⟩:VFt)) w2:=Kin.keepG (v:=.slice aoV n capV) (v1:=.slice aoV n capV) (j:=0) (kin_selfG _ _ hRB) hRB hv2' hl2 (Nat.zero_le _)
     have hv12:=Kin.keepG (unhide HK1) hvB hv2' hl2 (by omega)
     have hGC:=(hGB.then hgB (by simp)).trans (hl2.gr (fun g hg=>(unhide HV).2 g hg))
     have hown2:=hl2.own
     have HSZ1:wo.heap.size≤(w1.alloc (.cells #[.int .i64 m,.slice none 0 0,.int .i64 m,.slice none 0 0] 37)).heap.size:=Nat.le_trans hGB.size hgB.size
     have hgC:=World.grownBy_alloc w2 (.cells #[.int .i64 m,.slice none 0 0,.int .i64 m,.slice none 0 0,.int .i64 m,.slice none 0 0] 37) none
     have hs3:RowAt 37 2 ftenc 0 (.slice (some ⟨w2.heap.size,0,none⟩) 3 3) (List.replicate 3 (⟨m,.slice none 0 0,[]⟩:VFt)) (w2.alloc (.cells #[.int .i64 m,.slice none 0 0,.int .i64 m,.slice none 0 0,.int .i64 m,.slice none 0 0] 37)):=(RowAt.litn ftenc_len w2 (List.replicate 3 (⟨m,.slice none 0 0,[]⟩:VFt)) #[.int .i64 m,.slice none 0 0,.int .i64 m,.slice none 0 0,.int .i64 m,.slice none 0 0] rfl (by simp [maxLen])).weak (Nat.zero_le _)
     have hRC:=hR2.gr hgC
     have hvC1:=hv12.gr hgC
     have hvC2:=hv2'.gr hgC
     have HK2:=hide hkin2
     have HOW2:=hide hown2
     clear hgB hs2 hRB hvB hv2 hl2 hR2 hv12 hGB hltW hkin2 hown2 hv2'
     go_wp2_with (at_builtin; refine app_two rfl _ _ 47 rfl Tryz.underlying47 Tryz.infoFact rfl (by decide) rfl hRC rfl hs3 (by simp) (fun y hy=>ftenc_one y (by rw [List.eq_of_mem_replicate hy]; rfl)) (by unfold maxLen; simp; omega) (by simp; omega) ?_)
     intro v3 w3 hv3 hl3
     obtain ⟨g3,cap3,rfl⟩:=hl3.form
     have hv3':RowAt 37 2 ftenc 0 (.slice (some ⟨g3,0,none⟩) (n+3) cap3) (List.replicate (n+3) (⟨m,.slice none 0 0,[]⟩:VFt)) w3:=by have:=hv3; rw [←rep_snocG n (⟨m,.slice none 0 0,[]⟩:VFt) 3]; exact this
     have hR3:RowAt 37 2 ftenc 0 (.slice aoV n capV) (List.replicate (n+0) (⟨m,.slice none 0 0,[]⟩:VFt)) w3:=Kin.keepG (v:=.slice aoV n capV) (v1:=.slice aoV n capV) (j:=0) (kin_selfG _ _ hRC) hRC hv3' hl3 (Nat.zero_le _)
     have hv13:=Kin.keepG (unhide HK1) hvC1 hv3' hl3 (by omega)
     have hv23:=Kin.keepG (unhide HK2) hvC2 hv3' hl3 (by omega)
     have hGD:=(hGC.then hgC (by simp)).trans (hl3.gr (fun g hg=>(unhide HV).2 g hg))
     have hown3:=hl3.own
     have hG3:=hGD.size
     have hsz1:=hGC.size
     have ho:∀ v':Value,(v'=.slice aoV n capV∨v'=.slice (some ⟨g1,0,none⟩) (n+1) cap1∨v'=.slice (some ⟨g2,0,none⟩) (n+2) cap2∨v'=.slice (some ⟨g3,0,none⟩) (n+3) cap3)→∀ g,v'.ownBlock=some g→(g < wo.heap.size∧T1 g=13)∨wo.heap.size≤g:=by
      have hV:∀ g,(Value.slice aoV n capV).ownBlock=some g→(g < wo.heap.size∧T1 g=13)∨wo.heap.size≤g:=fun g hg=>.inl ⟨(unhide HLT g hg).2,(unhide HV).2 g hg⟩
      rintro v' (rfl | rfl | rfl | rfl) g hg
      ·exact hV g hg
      ·rcases unhide HOW1 g hg with h | h
       ·exact hV g h
       ·exact .inr (Nat.le_trans HSZ0 h)
      ·rcases unhide HOW2 g hg with h | h
       ·exact hV g h
       ·exact .inr (Nat.le_trans HSZ1 h)
      ·rcases hown3 g hg with h | h
       ·exact hV g h
       ·exact .inr (Nat.le_trans (Nat.le_trans hsz1 hgC.size) h)
     have HO:=hide ho
     have hus3:=hGD.row (unhide HE11).1 (fun g hg=>by have:=(unhide HE11).2 g hg; omega)
     have hks3:=hGD.row (unhide HE12).1 (fun g hg=>by have:=(unhide HE12).2 g hg; omega)
     have hW3:=(unhide HW).grs hGD (by omega)
     clear hgC hs3 hRC hvC1 hvC2 hv3 hl3 hown3 ho hGC hsz1 HOW1 HOW2 HK1 HK2
     have HNN:=hide hnn
     clear hnn
     obtain ⟨aoU,capU,rfl⟩:=hus3.slice
     obtain ⟨L4,hL4⟩:∃ L4:List (Value×Int),L4=[(.slice aoV n capV,m),(.slice (some ⟨g1,0,none⟩) (n+1) cap1,m),(.slice (some ⟨g2,0,none⟩) (n+2) cap2,m),(.slice (some ⟨g3,0,none⟩) (n+3) cap3,m)]:=⟨_,rfl⟩
     have hL4l:L4.length=4:=by rw [hL4]; rfl
     have hgD:=World.grownBy_alloc w3 (.cells #[.slice aoV n capV,.slice (some ⟨g1,0,none⟩) (n+1) cap1,.slice (some ⟨g2,0,none⟩) (n+2) cap2,.slice (some ⟨g3,0,none⟩) (n+3) cap3] 47) none
     have hs4:RowAt 47 1 (fun p:Value×Int=>[p.1]) 0 (.slice (some ⟨w3.heap.size,0,none⟩) 4 4) L4 (w3.alloc (.cells #[.slice aoV n capV,.slice (some ⟨g1,0,none⟩) (n+1) cap1,.slice (some ⟨g2,0,none⟩) (n+2) cap2,.slice (some ⟨g3,0,none⟩) (n+3) cap3] 47)):=by
      have:=(RowAt.litn (e:=47) (size:=1) (enc:=fun p:Value×Int=>[p.1]) (fun _=>rfl) w3 L4 #[.slice aoV n capV,.slice (some ⟨g1,0,none⟩) (n+1) cap1,.slice (some ⟨g2,0,none⟩) (n+2) cap2,.slice (some ⟨g3,0,none⟩) (n+3) cap3] (by rw [hL4]; rfl) (by rw [hL4l]; decide)).weak (Nat.zero_le _)
      rw [hL4l] at this
      exact this
     have hone4:∀ y∈L4,∀ c∈[y.1],c.oneCell'=true:=by
      intro y hy c hc
      rw [hL4] at hy
      simp only [List.mem_singleton] at hc
      subst hc
      simp only [List.mem_cons,List.not_mem_nil,or_false] at hy
      rcases hy with rfl | rfl | rfl | rfl<;>rfl
     have hUL:=unhide HFL
     have hb1:fs.length+L4.length≤maxLen:=by rw [hL4l]; unfold maxLen; omega
     have hb2:(fs.length+L4.length) * 24≤140737488355328:=by rw [hL4l]; omega
     have hb3:0 < L4.length:=by rw [hL4l]; decide
     have HB1:=hide hb1
     have HB2:=hide hb2
     have HB3:=hide hb3
     have HONE:=hide hone4
     have HS4:=hide hs4
     have hus4:=hus3.gr hgD
     have hWD:=hW3.gr hgD (by simp)
     have hcW1:(w3.alloc (.cells #[.slice aoV n capV,.slice (some ⟨g1,0,none⟩) (n+1) cap1,.slice (some ⟨g2,0,none⟩) (n+2) cap2,.slice (some ⟨g3,0,none⟩) (n+3) cap3] 47)).cell? ⟨W,2,none⟩=some (.slice aoU fs.length capU):=hWD.cell 2
     have hcW0:w3.cell? ⟨W,2,none⟩=some (.slice aoU fs.length capU):=hW3.cell 2
     have HL4:=hide hL4
     have HL4L:=hide hL4l
     clear hb1 hb2 hb3 hone4 hs4 hL4 hL4l hUL
     have huW:(Value.slice aoU fs.length capU).ownBlock≠some W:=fun e=>by have:=(unhide HE11).2 W e; omega
     have HUW:=hide huW
     clear huW
     go_wp2_with (at_builtin; refine app_two rfl _ _ 69 rfl Tryz.underlying69 Tryz.infoSFact rfl (by decide) rfl hus4 rfl (unhide HS4) (unhide HB3) (unhide HONE) (unhide HB1) (unhide HB2) ?_)
     intro u5 w5 hu5 hl5
     obtain ⟨g5,cap5,rfl⟩:=hl5.form
     rw [unhide HL4L] at hu5 hl5
     have hW5:WBlk W #[nv,uv1,.slice aoU fs.length capU,ov,k01,kx,ko,lv] w5:=hl5.block hWD (unhide HUW)
     have c51:w5.cell? ⟨W,2,none⟩=some (.slice aoU fs.length capU):=hW5.cell 2
     have z51:=hW5.fz 2
     have hTU:∀ g,(Value.slice aoU fs.length capU).ownBlock=some g→g < wo.heap.size∧T1 g=4:=fun g hg=>⟨((unhide HE11).1.own g hg).2,(unhide HE11).2 g hg⟩
     have hTK:∀ g,kx.ownBlock=some g→g < wo.heap.size∧T1 g=7:=fun g hg=>⟨((unhide HE12).1.own g hg).2,(unhide HE12).2 g hg⟩
     have hgs:=gr_set w5 W 2 (.slice (some ⟨g5,0,none⟩) (fs.length+4) cap5)
     have hWlt:W < wo.heap.size:=row_lt (unhide HW)
     have hvkeep:∀ (v':Value) (k:Nat),(v'=.slice aoV n capV∨v'=.slice (some ⟨g1,0,none⟩) (n+1) cap1∨v'=.slice (some ⟨g2,0,none⟩) (n+2) cap2∨v'=.slice (some ⟨g3,0,none⟩) (n+3) cap3)→RowAt 37 2 ftenc 0 v' (List.replicate k (⟨m,.slice none 0 0,[]⟩:VFt)) w3→RowAt 37 2 ftenc 0 v' (List.replicate k (⟨m,.slice none 0 0,[]⟩:VFt)) (w5.setCell ⟨W,2,none⟩ (.slice (some ⟨g5,0,none⟩) (fs.length+4) cap5)):=by
      intro v' k hv' h
      have h1:=hl5.keepRow (h.gr hgD) (fun g hg e=>by
       have h2:=hTU g e
       rcases unhide HO v' hv' g hg with h3 | h3<;>omega)
      refine h1.other hgs (fun g hg e=>?_)
      simp only [Option.some.injEq] at e
      subst e
      rcases unhide HO v' hv' W hg with h3 | h3<;>omega
     have hw0:=hvkeep _ _ (.inl rfl) hR3
     have hw1:=hvkeep _ _ (.inr (.inl rfl)) hv13
     have hw2:=hvkeep _ _ (.inr (.inr (.inl rfl))) hv23
     have hw3:=hvkeep _ _ (.inr (.inr (.inr rfl))) hv3'
     have hk6:RowAt 3 1 ienc 0 kx (fs.map Prod.snd) (w5.setCell ⟨W,2,none⟩ (.slice (some ⟨g5,0,none⟩) (fs.length+4) cap5)):=by
      have h1:=hl5.keepRow (hks3.gr hgD) (fun g hg e=>by have h2:=hTU g e; have h3:=hTK g hg; omega)
      refine h1.other hgs (fun g hg e=>?_)
      simp only [Option.some.injEq] at e
      subst e
      have h3:=hTK W hg
      omega
     have hu6:RowAt 47 1 (fun p:Value×Int=>[p.1]) 0 (.slice (some ⟨g5,0,none⟩) (fs.length+4) cap5) (fs ++ L4) (w5.setCell ⟨W,2,none⟩ (.slice (some ⟨g5,0,none⟩) (fs.length+4) cap5)):=by
      refine hu5.other hgs (fun g hg e=>?_)
      simp only [Option.some.injEq] at e
      subst e
      rcases hl5.own W hg with h2 | h2
      ·exact unhide HUW h2
      ·have h4:=hgD.size
       omega
     have hW6:WBlk W #[nv,uv1,.slice (some ⟨g5,0,none⟩) (fs.length+4) cap5,ov,k01,kx,ko,lv] (w5.setCell ⟨W,2,none⟩ (.slice (some ⟨g5,0,none⟩) (fs.length+4) cap5)):=hW5.set 2 _
     have hg5own:g5 < w3.heap.size+1→T1 g5=4∧g5 < wo.heap.size:=by
      intro hlt
      rcases hl5.own g5 rfl with h2 | h2
      ·exact ⟨(hTU g5 h2).2,(hTU g5 h2).1⟩
      ·simp at h2; omega
     have hG6:GrS (fun k=>T1 k=1∨T1 k=4∨T1 k=7∨T1 k=13) wo (w5.setCell ⟨W,2,none⟩ (.slice (some ⟨g5,0,none⟩) (fs.length+4) cap5)):=by
      have h1:GrS (fun k=>T1 k=1∨T1 k=4∨T1 k=7∨T1 k=13) wo w3:=hGD.mono (fun k hk=>.inr (.inr (.inr hk)))
      have h2:=(h1.then hgD (by simp)).trans (hl5.gr (fun g hg=>.inr (.inl (hTU g hg).2)))
      exact h2.then hgs (fun g hg=>by simp only [Option.some.injEq] at hg; subst hg; exact .inr (.inl hTW1))
     obtain ⟨w6,hw6⟩:∃ w6,w5.setCell ⟨W,2,none⟩ (.slice (some ⟨g5,0,none⟩) (fs.length+4) cap5)=w6:=⟨_,rfl⟩
     have hs56:w5.heap.size=w6.heap.size:=by rw [←hw6]; simp [World.setCell]
     have hs35:w3.heap.size+1≤w5.heap.size:=by
      have h1:GrS (fun k=>T1 k=4) (w3.alloc (.cells #[.slice aoV n capV,.slice (some ⟨g1,0,none⟩) (n+1) cap1,.slice (some ⟨g2,0,none⟩) (n+2) cap2,.slice (some ⟨g3,0,none⟩) (n+3) cap3] 47)) w5:=hl5.gr (fun g hg=>(hTU g hg).2)
      have h2:=h1.size
      simp at h2
      omega
     have hlt5:g5 < w5.heap.size:=(hu5.own g5 rfl).2
     have hlt3:∀ (v':Value) (k:Nat),RowAt 37 2 ftenc 0 v' (List.replicate k (⟨m,.slice none 0 0,[]⟩:VFt)) w3→∀ g,v'.ownBlock=some g→g < w3.heap.size:=fun v' k h g hg=>(h.own g hg).2
     have q0:=hlt3 _ _ hR3
     have q1:=hlt3 _ _ hv13
     have q2:=hlt3 _ _ hv23
     have q3:=hlt3 _ _ hv3'
     rw [hw6] at hw0 hw1 hw2 hw3 hk6 hu6 hW6 hG6
     have hk0:=unhide HK0
     subst hk0
     have hgX:=gr_drew (World.grownBy_alloc w6 (.cells #[.int .i64 m,.int .i64 m,.int .i64 m,.int .i64 m] 3) none)
     have hsX:IsAt 0 (.slice (some ⟨w6.heap.size,0,none⟩) 4 4) (List.replicate 4 m) (w6.alloc (.cells #[.int .i64 m,.int .i64 m,.int .i64 m,.int .i64 m] 3)).drew:=((RowAt.litn ienc_len w6 (List.replicate 4 m) #[.int .i64 m,.int .i64 m,.int .i64 m,.int .i64 m] rfl (by simp [maxLen])).weak (Nat.zero_le _)).heap rfl
     have c64:w6.cell? ⟨W,5,none⟩=some (.slice aoK fs.length capK):=hW6.cell 5
     have c64':(w6.alloc (.cells #[.int .i64 m,.int .i64 m,.int .i64 m,.int .i64 m] 3)).cell? ⟨W,5,none⟩=some (.slice aoK fs.length capK):=(World.grownBy_alloc w6 _ none).cell c64 (by simp)
     obtain ⟨WX,hWX⟩:∃ WX,(w6.alloc (.cells #[.int .i64 m,.int .i64 m,.int .i64 m,.int .i64 m] 3)).drew=WX:=⟨_,rfl⟩
     have hsXs:WX.heap.size=w6.heap.size+1:=by rw [←hWX]; simp [World.drew]
     rw [hWX] at hgX hsX
     have hkX:=hk6.gr hgX
     have hKW:(Value.slice aoK fs.length capK).ownBlock≠some W:=fun e=>by have:=hTK W e; omega
     have hFin:∀ g7 cap7 w7,RowAt 3 1 ienc 0 (.slice (some ⟨g7,0,none⟩) (fs.length+4) cap7) (fs.map Prod.snd ++ List.replicate 4 m) w7→Longer (.slice aoK fs.length capK) (.slice (some ⟨g7,0,none⟩) (fs.length+4) cap7) fs.length 4 WX w7→
       w7.cell? ⟨W,5,none⟩=some (.slice aoK fs.length capK)∧w7.frozen? ⟨W,5,none⟩=false∧OwnFPost T W nv ov ko lv us fs n w (.returned (.tuple #[])) (w7.setCell ⟨W,5,none⟩ (.slice (some ⟨g7,0,none⟩) (fs.length+4) cap7)):=by
      intro g7 cap7 w7 hv7 hl7
      have hW7:WBlk W #[nv,uv1,.slice (some ⟨g5,0,none⟩) (fs.length+4) cap5,ov,k01,.slice aoK fs.length capK,ko,lv] w7:=hl7.block (hW6.gr hgX (by simp)) hKW
      have hgs7:=gr_set w7 W 5 (.slice (some ⟨g7,0,none⟩) (fs.length+4) cap7)
      have hG7:=((hG6.then hgX (by simp)).trans (hl7.gr (fun g hg=>.inr (.inr (.inl (hTK g hg).2))))).then hgs7 (fun g hg=>by simp only [Option.some.injEq] at hg; subst hg; exact .inr (.inl hTW1))
      have hg7:g7 < w6.heap.size+1→T1 g7=7∧g7 < wo.heap.size:=by
       intro hlt
       rcases hl7.own g7 rfl with h2 | h2
       ·exact ⟨(hTK g7 h2).2,(hTK g7 h2).1⟩
       ·omega
      have hkeep:∀ {α:Type} {e:TypeId} {size:Nat} {enc:α→List Value} (x:Value) (y:List α),RowAt e size enc 0 x y w6→(∀ g,x.ownBlock=some g→(g < wo.heap.size∧T1 g≠7∧T1 g≠1)∨wo.heap.size≤g)→RowAt e size enc 0 x y (w7.setCell ⟨W,5,none⟩ (.slice (some ⟨g7,0,none⟩) (fs.length+4) cap7)):=by
       intro α e size enc x y h hx
       have h1:=hl7.keepRow (h.gr hgX) (fun g hg e=>by
        have h2:=hTK g e
        rcases hx g hg with h3 | h3<;>omega)
       refine h1.other hgs7 (fun g hg e=>?_)
       simp only [Option.some.injEq] at e
       subst e
       rcases hx W hg with h3 | h3<;>omega
      have hLm:L4.map Prod.snd=List.replicate 4 m:=by rw [unhide HL4]; rfl
      obtain ⟨T',hT'⟩:∃ T':Nat→Nat,∀ k,T' k=if k < wo.heap.size then (if T1 k=13 then 10 else T1 k) else if k=g5 then 4 else if k=g7 then 7 else 10:=⟨_,fun _=>rfl⟩
      have hTo:∀ k,k < wo.heap.size→T1 k≠13→T' k=T1 k:=fun k h1 h2=>by rw [hT',if_pos h1,if_neg h2]
      have hNF:NumsAt T' uv1 k01 us1 (w7.setCell ⟨W,5,none⟩ (.slice (some ⟨g7,0,none⟩) (fs.length+4) cap7)):=by
       obtain ⟨a1,a2,a3⟩:=unhide HN1
       refine ⟨a1.keep2 hG7 (fun k hk=>by omega) (fun k hk hk2=>by rw [hTo k hk (by omega)]; exact hk2),a2.keep2 hG7 (fun k hk=>by omega) (fun k hk hk2=>by rw [hTo k hk (by omega)]; exact hk2),fun p hp=>?_⟩
       obtain ⟨j,hj⟩:=a3 p hp
       exact ⟨j,hj.keep2 hG7 (fun k hk=>by omega) (fun k hk hk2=>by rw [hTo k hk (by omega)]; exact hk2)⟩
      have hGF:GrS (fun k=>T k=1∨T k=3∨T k=6∨T k=4∨T k=7∨InH (T k)) w (w7.setCell ⟨W,5,none⟩ (.slice (some ⟨g7,0,none⟩) (fs.length+4) cap7)):=by
       refine ((unhide HG1).mono (fun k hk=>?_)).comp hG7 (fun k hk hn=>?_)
       ·rcases hk with h | h | h | ⟨j,_,h⟩
        ·exact .inl h
        ·exact .inr (.inl h)
        ·exact .inr (.inr (.inl h))
        ·exact .inr (.inr (.inr (.inr (.inr ⟨by omega,by omega⟩))))
       ·have hI:¬ InH (T k):=fun h=>hn (.inr (.inr (.inr (.inr (.inr h)))))
        have h1:=unhide HT1 k hk (fun j hj e=>hI ⟨by omega,by omega⟩)
        rw [h1]
        rintro (h | h | h | h)
        ·exact hn (.inl h)
        ·exact hn (.inr (.inr (.inr (.inl h))))
        ·exact hn (.inr (.inr (.inr (.inr (.inl h)))))
        ·exact hI ⟨by omega,by omega⟩
      have hTF:∀ k,k < w.heap.size→¬ InH (T k)→T' k=T k:=by
       intro k hk hI
       have h1:=unhide HT1 k hk (fun j hj e=>hI ⟨by omega,by omega⟩)
       rw [hTo k (Nat.lt_of_lt_of_le hk (unhide HG1).size) (by rw [h1]; intro e; exact hI ⟨by omega,by omega⟩),h1]
      refine ⟨hW7.cell 5,hW7.fz 5,rfl,T',uv1,k01,us1,.slice (some ⟨g5,0,none⟩) (fs.length+4) cap5,.slice (some ⟨g7,0,none⟩) (fs.length+4) cap7,fs ++ L4,hW7.set 5 _,hNF,⟨⟨?_,?_⟩,⟨?_,?_⟩,?_⟩,unhide HU1,by rw [List.length_append,unhide HL4L],hGF,hTF⟩
      ·refine hkeep _ _ hu6 (fun g hg=>?_)
       simp only [Value.ownBlock,Option.some.injEq] at hg
       subst hg
       by_cases hlt:g5 < wo.heap.size
       ·have:=hg5own (by omega)
        exact .inl ⟨hlt,by omega,by omega⟩
       ·exact .inr (by omega)
      ·intro g hg
       simp only [Value.ownBlock,Option.some.injEq] at hg
       subst hg
       by_cases hlt:g5 < wo.heap.size
       ·have:=hg5own (by omega)
        rw [hTo g5 hlt (by omega)]
        exact this.1
       ·rw [hT',if_neg hlt,if_pos rfl]
      ·rw [List.map_append,hLm]
       refine hv7.other hgs7 (fun g hg e=>?_)
       simp only [Value.ownBlock,Option.some.injEq] at hg e
       subst hg
       subst e
       have:=hg7 (by omega)
       omega
      ·intro g hg
       simp only [Value.ownBlock,Option.some.injEq] at hg
       subst hg
       by_cases hlt:g7 < wo.heap.size
       ·have:=hg7 (by omega)
        rw [hTo g7 hlt (by omega)]
        exact this.1
       ·have hne:g7≠g5:=by
         intro e
         have:=hg7 (by omega)
         omega
        rw [hT',if_neg hlt,if_neg hne,if_pos rfl]
      ·have hnew:∀ (v':Value) (k:Nat),(v'=.slice aoV n capV∨v'=.slice (some ⟨g1,0,none⟩) (n+1) cap1∨v'=.slice (some ⟨g2,0,none⟩) (n+2) cap2∨v'=.slice (some ⟨g3,0,none⟩) (n+3) cap3)→RowAt 37 2 ftenc 0 v' (List.replicate k (⟨m,.slice none 0 0,[]⟩:VFt)) w6→(∀ g,v'.ownBlock=some g→g < w3.heap.size)→∃ j,TRow T' 10 37 2 ftenc v' (List.replicate j (⟨m,.slice none 0 0,[]⟩:VFt)) (w7.setCell ⟨W,5,none⟩ (.slice (some ⟨g7,0,none⟩) (fs.length+4) cap7)):=by
        intro v' k hv' h hlt
        refine ⟨k,hkeep v' _ h (fun g hg=>?_),fun g hg=>?_⟩
        ·rcases unhide HO v' hv' g hg with h3 | h3
         ·exact .inl ⟨h3.1,by omega,by omega⟩
         ·exact .inr h3
        ·rcases unhide HO v' hv' g hg with h3 | h3
         ·rw [hT',if_pos h3.1,if_pos h3.2]
         ·have hl:=hlt g hg
          have hn5:g≠g5:=by
           intro e
           have:=hg5own (by omega)
           omega
          have hn7:g≠g7:=by
           intro e
           have:=hg7 (by omega)
           omega
          rw [hT',if_neg (by omega),if_neg hn5,if_neg hn7]
       intro p hp
       rcases List.mem_append.1 hp with hp | hp
       ·obtain ⟨j,hj⟩:=unhide HE13 p hp
        exact ⟨j,hj.keep2 hG7 (fun k hk=>by omega) (fun k hk hk2=>by rw [hTo k hk (by omega)]; exact hk2)⟩
       ·rw [unhide HL4] at hp
        simp only [List.mem_cons,List.not_mem_nil,or_false] at hp
        rcases hp with rfl | rfl | rfl | rfl
        ·exact hnew _ _ (.inl rfl) hw0 q0
        ·exact hnew _ _ (.inr (.inl rfl)) hw1 q1
        ·exact hnew _ _ (.inr (.inr (.inl rfl))) hw2 q2
        ·exact hnew _ _ (.inr (.inr (.inr rfl))) hw3 q3
     have HFIN:=hide hFin
     have HKX:=hide hkX
     have HSX:=hide hsX
     have HWX:=hide hWX
     have HW6:=hide hw6
     have hUL:=unhide HFL
     have hb1:(fs.map Prod.snd).length+(List.replicate 4 m).length≤maxLen:=by rw [List.length_map,List.length_replicate]; unfold maxLen; omega
     have hb2:((fs.map Prod.snd).length+(List.replicate 4 m).length) * 8≤140737488355328:=by rw [List.length_map,List.length_replicate]; omega
     have HBX1:=hide hb1
     have HBX2:=hide hb2
     clear hFin hkX hsX hWX hb1 hb2 hUL hk6 hu6 hW6 hG6 hw0 hw1 hw2 hw3 hvkeep hlt3 q0 q1 q2 q3 hR3 hv13 hv23 hv3' hg5own hTU hTK hu5 hl5 hus3 hus4 hks3 hgD hW3 hWD hW5 hcW1 hcW0 hGD hgs hgX hKW hw6
     go_wp2_with fail
     rw [unhide HL4L,unhide HW6]
     go_region_law (rw [unhide HWX]; refine app_two_step rfl _ _ 35 rfl Tryz.underlying35 Tryz.infoInt rfl (by decide) (by simp [Act.eval]) (unhide HKX) (by simp [Act.eval]) (unhide HSX) (by simp) (fun y _=>ienc_one y) (unhide HBX1) (unhide HBX2) ?_; intro kv w7 hv7 hl7; rw [List.length_map,List.length_replicate] at hl7; obtain ⟨g7,cap7,rfl⟩:=hl7.form; obtain ⟨f1,f2,f3⟩:=unhide HFIN g7 cap7 w7 hv7 hl7; have F3:=hide f3; clear f3 hv7 hl7)
     all_goals
      go_wp2_with fail
      go_end0
      have F4:=unhide F3
      rw [←unhide HNN] at F4
      exact F4
end Go.Proofs.YtolhbeekfjnfmaaGreatDoor
namespace Go.Proofs.YtolhbeekfjnfmaaGreatDoor
open Go.RowKit
def OwnMPost (T:Nat→Nat) (W:Nat) (nv ov ko lv:Value) (us:List (Value×Int)) (fs:List (Value×Int)) (n:Nat) (w:World) (e:Ending) (w':World):Prop:=
 e=.returned (.tuple #[])∧∃ T' uv' k0' us' xv' kx' fs',WBlk W #[nv,uv',ov,xv',k0',ko,kx',lv] w'∧NumsAt T' uv' k0' us' w'∧ElsAt 5 8 43 52 T' xv' kx' fs' w'∧us'.length=us.length+4 * n∧fs'.length=fs.length+4∧
  GrS (fun k=>T k=1∨T k=3∨T k=6∨T k=5∨T k=8∨InH (T k)) w w'∧∀ k,k < w.heap.size→¬ InH (T k)→T' k=T k
set_option maxRecDepth 100000 in
set_option maxHeartbeats 4000000 in
theorem ownM_w (T:Nat→Nat) (W:Nat) (nv uv xv ov k0 kx ko lv:Value) (us fs:List (Value×Int)) (v:Value) (xs:List VFt) (w:World)
  (hW:WBlk W #[nv,uv,ov,xv,k0,ko,kx,lv] w) (hTW:T W=1) (hN:NumsAt T uv k0 us w) (hE:ElsAt 5 8 43 52 T xv kx fs w) (hH:Hand T 52 v xs w) (hul:us.length+4 * xs.length≤4398046511104) (hfl:fs.length≤4398046511104) (hxl:xs.length≤1000000) :
  Calls Tryz.prog 58 #[.pointer (some ⟨W,0,none⟩),v] w fun e w'=>OwnMPost T W nv ov ko lv us fs xs.length w e w':=by
 obtain ⟨aoV,capV,rfl⟩:=hH.row.1.slice
 have hWlt:W < w.heap.size:=row_lt hW
 have HH:=hide hH
 have HE:=hide hE
 have HN:=hide hN
 have HW:=hide hW
 have HUL:=hide hul
 have HFL:=hide hfl
 clear hH hE hN hW hul hfl
 go_enter Tryz.func58,Tryz.ntmps58
 go_wp2
 go_loopw [4] (fun z w'=>∃ (i:Nat) (T1:Nat→Nat) (uv1 k01:Value) (us1:List (Value×Int)),i≤xs.length∧z=.int .i64 i∧WBlk W #[nv,uv1,ov,xv,k01,ko,kx,lv] w'∧NumsAt T1 uv1 k01 us1 w'∧us1.length=us.length+4 * i∧GrS (Sd T i) w w'∧∀ k,k < w.heap.size→(∀ j,j < i→T k≠13+3 * (j+1))→T1 k=T k) (fun z _=>xs.length - (intOf z).toNat)
 case atStart=>exact ⟨0,T,uv,k0,us,Nat.zero_le _,rfl,unhide HW,unhide HN,rfl,GrS.refl _ _,fun _ _ _=>rfl⟩
 case round=>
  obtain ⟨i,T1,uv1,k01,us1,hi,rfl,hW1,hN1,hu1,hG1,hT1⟩:=hrel
  by_cases hlt:i < xs.length
  ·have hdi:decide (i < xs.length)=true:=by simpa using hlt
   obtain ⟨x,hx⟩:∃ x,xs[i]?=some x:=⟨xs[i],List.getElem?_eq_getElem hlt⟩
   have hrow:=hG1.row (unhide HH).row.1 (fun g hg=>by have:=(unhide HH).row.2 g hg; exact Sd_13 this)
   obtain ⟨g,cp,hvv,hcs⟩:=hrow.cells hx
   simp only [Value.slice.injEq,true_and] at hvv
   obtain ⟨rfl,rfl⟩:=hvv
   have x1:wr.cell? ⟨g,i * 2+1,none⟩=some x.v:=hcs 1 (by omega)
   obtain ⟨hxr,hxle⟩:=(unhide HH).els i x hx
   have hxr1:TRow T1 (13+3 * (i+1)) 3 1 ienc x.v x.vals wr:=hxr.keep2 hG1 (fun k hk=>Sd_no hk) (fun k hk hk2=>by rw [hT1 k hk (fun j hj=>by omega)]; exact hk2)
   obtain ⟨xa,xc,hxv⟩:=hxr1.1.slice
   have hTW1:T1 W=1:=by rw [hT1 W hWlt (fun j hj=>by omega)]; exact hTW
   have hO:=ownN_w T1 (13+3 * (i+1)) W nv uv1 ov xv k01 ko kx lv us1 x.v x.vals wr hW1 hTW1 hN1 hxr1 (by omega) (by have:=unhide HUL; omega) hxle
   rw [hxv] at x1 hO
   have HU1:=hide hu1
   have HG1:=hide hG1
   have HT1:=hide hT1
   clear hrow hcs hx hxr hxle hxr1 hxv hu1 hG1 hT1 hN1 hW1 hTW1
   go_wp2_with fail
   refine hO.mono ?_
   rintro e w2 ⟨rfl,T2,uv2,k02,us2,hW2,hN2,hu2,hG2,hT2⟩
   have hG02:GrS (Sd T (i+1)) w w2:=by
    refine ((unhide HG1).mono (fun k hk=>Sd_succ hk)).comp hG2 (fun k hk hn=>?_)
    have h1:=unhide HT1 k hk (fun j hj e=>hn (.inr (.inr (.inr ⟨j,by omega,e⟩))))
    rw [h1]
    rintro (h | h | h | h)
    ·exact hn (.inl h)
    ·exact hn (.inr (.inl h))
    ·exact hn (.inr (.inr (.inl h)))
    ·exact hn (.inr (.inr (.inr ⟨i,by omega,h⟩)))
   have hT02:∀ k,k < w.heap.size→(∀ j,j < i+1→T k≠13+3 * (j+1))→T2 k=T k:=by
    intro k hk hn
    have h1:=unhide HT1 k hk (fun j hj=>hn j (by omega))
    rw [hT2 k (Nat.lt_of_lt_of_le hk (unhide HG1).size) (by rw [h1]; exact hn i (by omega)),h1]
   have HR:=hide (show WBlk W #[nv,uv2,ov,xv,k02,ko,kx,lv] w2∧NumsAt T2 uv2 k02 us2 w2∧us2.length=us.length+4 * (i+1)∧GrS (Sd T (i+1)) w w2∧∀ k,k < w.heap.size→(∀ j,j < i+1→T k≠13+3 * (j+1))→T2 k=T k from ⟨hW2,hN2,by have:=unhide HU1; omega,hG02,hT02⟩)
   clear hO hW2 hN2 hu2 hG2 hT2 hG02 hT02 HU1 HG1 HT1
   go_wp2
   go_roundw
   case rel=>exact ⟨i+1,T2,uv2,k02,us2,by omega,by go_num,unhide HR⟩
   case measure=>simp [intOf]; omega
  ·have hdi:decide (i < xs.length)=false:=by simpa using hlt
   have hie:i=xs.length:=by omega
   have hG1':GrS (Sd T xs.length) w wr:=by rw [←hie]; exact hG1
   have hT1':∀ k,k < w.heap.size→(∀ j,j < xs.length→T k≠13+3 * (j+1))→T1 k=T k:=by rw [←hie]; exact hT1
   have hu1':us1.length=us.length+4 * xs.length:=by rw [←hie]; exact hu1
   have hTW1:T1 W=1:=by rw [hT1' W hWlt (fun j hj=>by omega)]; exact hTW
   have hV1:TRow T1 13 52 2 ftenc (.slice aoV xs.length capV) xs wr:=(unhide HH).row.keep2 hG1' (fun k hk=>Sd_13 hk) (fun k hk hk2=>by rw [hT1' k hk (fun j hj=>by omega)]; exact hk2)
   have hE1:ElsAt 5 8 43 52 T1 xv kx fs wr:=by
    obtain ⟨e1,e2,e3⟩:=unhide HE
    refine ⟨e1.keep2 hG1' (fun k hk=>Sd_small hk (by decide)) (fun k hk hk2=>by rw [hT1' k hk (fun j hj=>by omega)]; exact hk2),e2.keep2 hG1' (fun k hk=>Sd_small hk (by decide)) (fun k hk hk2=>by rw [hT1' k hk (fun j hj=>by omega)]; exact hk2),fun p hp=>?_⟩
    obtain ⟨n,hn⟩:=e3 p hp
    exact ⟨n,hn.keep2 hG1' (fun k hk=>Sd_small hk (by decide)) (fun k hk hk2=>by rw [hT1' k hk (fun j hj=>by omega)]; exact hk2)⟩
   have HU1:=hide hu1'
   have HG1:=hide hG1'
   have HT1:=hide hT1'
   have HN1:=hide hN1
   clear hu1 hG1 hT1 hie hG1' hT1' hu1' hN1 HH HE HN HW hlt hi hTW
   obtain ⟨wo,rfl⟩:∃ wo:World,wo=wr:=⟨_,rfl⟩
   obtain ⟨hE11,hE12,hE13⟩:=hE1
   obtain ⟨aoK,capK,hkx⟩:=hE12.1.slice
   rw [List.length_map] at hkx
   have cK:wo.cell? ⟨W,6,none⟩=some (.slice aoK fs.length capK):=by rw [hW1.cell 6,hkx]; rfl
   obtain ⟨m,hm⟩:∃ m:Int,m=-1 - (fs.length:Int):=⟨_,rfl⟩
   have hltV:=hV1.1.own
   have hWlt1:W < wo.heap.size:=row_lt hW1
   have hfl:=unhide HFL
   have HV:=hide hV1
   have HE11:=hide hE11
   have HE12:=hide hE12
   have HE13:=hide hE13
   have HW:=hide hW1
   have HK0:=hide hkx
   have HM:=hide hm
   have HLT:=hide hltV
   clear hV1 hE11 hE12 hE13 hW1 hkx hm hltV
   go_wp2
   rw [←unhide HM]
   clear hfl cK
   have hNA:=World.grownBy_alloc wo (.cells #[.int .i64 m,.slice none 0 0] 52) none
   have hN6:C2 52 wo.heap.size (.int .i64 m) (.slice none 0 0) (wo.alloc (.cells #[.int .i64 m,.slice none 0 0] 52)):=heap_alloc_new _ _
   go_loopw [7] (fun z w'=>∃ i2:Nat,i2≤xs.length∧z=.int .i64 i2∧GrS (fun k=>T1 k=13) wo w'∧RowAt 52 2 ftenc 0 (.slice aoV xs.length capV) (List.replicate i2 (⟨m,.slice none 0 0,[]⟩:VFt) ++ xs.drop i2) w'∧C2 52 wo.heap.size (.int .i64 m) (.slice none 0 0) w'∧wo.heap.size+1≤w'.heap.size) (fun z _=>xs.length - (intOf z).toNat)
   case atStart=>exact ⟨0,Nat.zero_le _,rfl,GrS.of hNA (by simp),by simpa using (unhide HV).1.gr hNA,hN6,by simp⟩
   case round=>
    clear hNA hN6
    obtain ⟨i2,hi2,rfl,hG,hR,hF,hws⟩:=hrel
    obtain ⟨f0,f1⟩:=hF.c
    by_cases hlt2:i2 < xs.length
    ·have hdi2:decide (i2 < xs.length)=true:=by simpa using hlt2
     obtain ⟨x,hx⟩:∃ x,(List.replicate i2 (⟨m,.slice none 0 0,[]⟩:VFt) ++ xs.drop i2)[i2]?=some x:=⟨_,List.getElem?_eq_getElem (by simp; omega)⟩
     obtain ⟨g,cp,hvv,hcs⟩:=hR.cells hx
     simp only [Value.slice.injEq] at hvv
     obtain ⟨rfl,hzz,rfl⟩:=hvv
     clear hzz
     have x0:wr.cell? ⟨g,i2 * 2,none⟩=some (.int .i64 x.kind):=hcs 0 (by omega)
     have x1:wr.cell? ⟨g,i2 * 2+1,none⟩=some x.v:=hcs 1 (by omega)
     have z0:=hR.fz (i2 * 2)
     have z1:=hR.fz (i2 * 2+1)
     have hTg:T1 g=13:=(unhide HV).2 g rfl
     have hgl:g < wo.heap.size:=(unhide HLT g rfl).2
     have hR2:=FtsAt.stored hR i2 ⟨m,.slice none 0 0,[]⟩ (by simp; omega)
     rw [rep_setG _ xs i2 hlt2] at hR2
     have hgs:=gr_set2o wr g (i2 * 2) (i2 * 2+1) (.int .i64 m) (.slice none 0 0)
     have hG2:=hG.then hgs (fun k hk=>by simp at hk; subst hk; exact .inr hTg)
     have hF2:=hF.kept hgs (by simp; omega)
     have HR2:=hide hR2
     have HG2:=hide hG2
     have HF2:=hide hF2
     have hws2:=Nat.le_trans hws hgs.size
     clear hcs hx hR hG hTg hR2 hG2 hF2 hgs hF
     go_wp2
     go_roundw
     case rel=>exact ⟨i2+1,by omega,by go_num,unhide HG2,unhide HR2,unhide HF2,hws2⟩
     case measure=>simp [intOf]; omega
    ·have hdi2:decide (i2 < xs.length)=false:=by simpa using hlt2
     have e1:List.replicate i2 (⟨m,.slice none 0 0,[]⟩:VFt) ++ xs.drop i2=List.replicate xs.length (⟨m,.slice none 0 0,[]⟩:VFt):=by
      rw [List.drop_of_length_le (by omega),List.append_nil]
      congr 1
      omega
     rw [e1] at hR
     clear e1 hlt2 hi2
     generalize hnn:xs.length=n at *
     have hgA:=World.grownBy_alloc wr (.cells #[.int .i64 m,.slice none 0 0] 52) none
     have hs1:RowAt 52 2 ftenc 0 (.slice (some ⟨wr.heap.size,0,none⟩) 1 1) (List.replicate 1 (⟨m,.slice none 0 0,[]⟩:VFt)) (wr.alloc (.cells #[.int .i64 m,.slice none 0 0] 52)):=(RowAt.litn ftenc_len wr (List.replicate 1 (⟨m,.slice none 0 0,[]⟩:VFt)) #[.int .i64 m,.slice none 0 0] rfl (by simp [maxLen])).weak (Nat.zero_le _)
     have hRA:=hR.gr hgA
     go_wp2_with (at_builtin; refine app_two rfl _ _ 43 rfl Tryz.underlying43 Tryz.infoMatch rfl (by decide) rfl hRA rfl hs1 (by simp) (fun y hy=>ftenc_one y (by rw [List.eq_of_mem_replicate hy]; rfl)) (by unfold maxLen; simp; omega) (by simp; omega) ?_)
     intro v1 w1 hv1 hl1
     obtain ⟨g1,cap1,rfl⟩:=hl1.form
     have hF1:C2 52 wo.heap.size (.int .i64 m) (.slice none 0 0) w1:=hl1.block (hF.kept hgA (by simp)) (fun e=>by have:=(unhide HLT _ e).2; omega)
     obtain ⟨f10,f11⟩:=hF1.c
     have hv1':RowAt 52 2 ftenc 0 (.slice (some ⟨g1,0,none⟩) (n+1) cap1) (List.replicate (n+1) (⟨m,.slice none 0 0,[]⟩:VFt)) w1:=by have:=hv1; rw [←rep_snocG n (⟨m,.slice none 0 0,[]⟩:VFt) 1]; exact this
     have hltW:∀ g,(Value.slice aoV n capV).ownBlock=some g→g < (wr.alloc (.cells #[.int .i64 m,.slice none 0 0] 52)).heap.size:=fun g hg=>Nat.lt_of_lt_of_le (unhide HLT g hg).2 (Nat.le_trans hG.size hgA.size)
     have hkin1:=hl1.kin hltW
     have hR1:RowAt 52 2 ftenc 0 (.slice aoV n capV) (List.replicate (n+0) (⟨m,.slice none 0 0,[]⟩:VFt)) w1:=Kin.keepG (v:=.slice aoV n capV) (v1:=.slice aoV n capV) (j:=0) (kin_selfG _ _ hR) hRA hv1' hl1 (Nat.zero_le _)
     have hGB:=(hG.then hgA (by simp)).trans (hl1.gr (fun g hg=>(unhide HV).2 g hg))
     have hown1:=hl1.own
     have HSZ0:wo.heap.size≤(wr.alloc (.cells #[.int .i64 m,.slice none 0 0] 52)).heap.size:=Nat.le_trans hG.size hgA.size
     have hgB:=World.grownBy_alloc w1 (.cells #[.int .i64 m,.slice none 0 0,.int .i64 m,.slice none 0 0] 52) none
     have hs2:RowAt 52 2 ftenc 0 (.slice (some ⟨w1.heap.size,0,none⟩) 2 2) (List.replicate 2 (⟨m,.slice none 0 0,[]⟩:VFt)) (w1.alloc (.cells #[.int .i64 m,.slice none 0 0,.int .i64 m,.slice none 0 0] 52)):=(RowAt.litn ftenc_len w1 (List.replicate 2 (⟨m,.slice none 0 0,[]⟩:VFt)) #[.int .i64 m,.slice none 0 0,.int .i64 m,.slice none 0 0] rfl (by simp [maxLen])).weak (Nat.zero_le _)
     have hRB:=hR1.gr hgB
     have hvB:=hv1'.gr hgB
     have HK1:=hide hkin1
     have HOW1:=hide hown1
     clear hgA hs1 hRA hv1 hl1 hR1 hR hG hltW hkin1 hown1 hv1'
     go_wp2_with (at_builtin; refine app_two rfl _ _ 43 rfl Tryz.underlying43 Tryz.infoMatch rfl (by decide) rfl hRB rfl hs2 (by simp) (fun y hy=>ftenc_one y (by rw [List.eq_of_mem_replicate hy]; rfl)) (by unfold maxLen; simp; omega) (by simp; omega) ?_)
     intro v2 w2 hv2 hl2
     obtain ⟨g2,cap2,rfl⟩:=hl2.form
     have hF2:C2 52 wo.heap.size (.int .i64 m) (.slice none 0 0) w2:=hl2.block (hF1.kept hgB (by simp)) (fun e=>by have:=(unhide HLT _ e).2; omega)
     obtain ⟨f20,f21⟩:=hF2.c
     have hv2':RowAt 52 2 ftenc 0 (.slice (some ⟨g2,0,none⟩) (n+2) cap2) (List.replicate (n+2) (⟨m,.slice none 0 0,[]⟩:VFt)) w2:=by have:=hv2; rw [←rep_snocG n (⟨m,.slice none 0 0,[]⟩:VFt) 2]; exact this
     have hltW:∀ g,(Value.slice aoV n capV).ownBlock=some g→g < (w1.alloc (.cells #[.int .i64 m,.slice none 0 0,.int .i64 m,.slice none 0 0] 52)).heap.size:=fun g hg=>Nat.lt_of_lt_of_le (unhide HLT g hg).2 (Nat.le_trans hGB.size hgB.size)
     have hkin2:=hl2.kin hltW
     have hR2:RowAt 52 2 ftenc 0 (.slice aoV n capV) (List.replicate (n+0) (⟨m,.slice none 0 0,[]⟩:VFt)) w2:=Kin.keepG (v:=.slice aoV n capV) (v1:=.slice aoV n capV) (j:=0) (kin_selfG _ _ hRB) hRB hv2' hl2 (Nat.zero_le _)
     have hv12:=Kin.keepG (unhide HK1) hvB hv2' hl2 (by omega)
     have hGC:=(hGB.then hgB (by simp)).trans (hl2.gr (fun g hg=>(unhide HV).2 g hg))
     have hown2:=hl2.own
     have HSZ1:wo.heap.size≤(w1.alloc (.cells #[.int .i64 m,.slice none 0 0,.int .i64 m,.slice none 0 0] 52)).heap.size:=Nat.le_trans hGB.size hgB.size
     have hgC:=World.grownBy_alloc w2 (.cells #[.int .i64 m,.slice none 0 0,.int .i64 m,.slice none 0 0,.int .i64 m,.slice none 0 0] 52) none
     have hs3:RowAt 52 2 ftenc 0 (.slice (some ⟨w2.heap.size,0,none⟩) 3 3) (List.replicate 3 (⟨m,.slice none 0 0,[]⟩:VFt)) (w2.alloc (.cells #[.int .i64 m,.slice none 0 0,.int .i64 m,.slice none 0 0,.int .i64 m,.slice none 0 0] 52)):=(RowAt.litn ftenc_len w2 (List.replicate 3 (⟨m,.slice none 0 0,[]⟩:VFt)) #[.int .i64 m,.slice none 0 0,.int .i64 m,.slice none 0 0,.int .i64 m,.slice none 0 0] rfl (by simp [maxLen])).weak (Nat.zero_le _)
     have hRC:=hR2.gr hgC
     have hvC1:=hv12.gr hgC
     have hvC2:=hv2'.gr hgC
     have HK2:=hide hkin2
     have HOW2:=hide hown2
     clear hgB hs2 hRB hvB hv2 hl2 hR2 hv12 hGB hltW hkin2 hown2 hv2'
     go_wp2_with (at_builtin; refine app_two rfl _ _ 43 rfl Tryz.underlying43 Tryz.infoMatch rfl (by decide) rfl hRC rfl hs3 (by simp) (fun y hy=>ftenc_one y (by rw [List.eq_of_mem_replicate hy]; rfl)) (by unfold maxLen; simp; omega) (by simp; omega) ?_)
     intro v3 w3 hv3 hl3
     obtain ⟨g3,cap3,rfl⟩:=hl3.form
     have hv3':RowAt 52 2 ftenc 0 (.slice (some ⟨g3,0,none⟩) (n+3) cap3) (List.replicate (n+3) (⟨m,.slice none 0 0,[]⟩:VFt)) w3:=by have:=hv3; rw [←rep_snocG n (⟨m,.slice none 0 0,[]⟩:VFt) 3]; exact this
     have hR3:RowAt 52 2 ftenc 0 (.slice aoV n capV) (List.replicate (n+0) (⟨m,.slice none 0 0,[]⟩:VFt)) w3:=Kin.keepG (v:=.slice aoV n capV) (v1:=.slice aoV n capV) (j:=0) (kin_selfG _ _ hRC) hRC hv3' hl3 (Nat.zero_le _)
     have hv13:=Kin.keepG (unhide HK1) hvC1 hv3' hl3 (by omega)
     have hv23:=Kin.keepG (unhide HK2) hvC2 hv3' hl3 (by omega)
     have hGD:=(hGC.then hgC (by simp)).trans (hl3.gr (fun g hg=>(unhide HV).2 g hg))
     have hown3:=hl3.own
     have hG3:=hGD.size
     have hsz1:=hGC.size
     have ho:∀ v':Value,(v'=.slice aoV n capV∨v'=.slice (some ⟨g1,0,none⟩) (n+1) cap1∨v'=.slice (some ⟨g2,0,none⟩) (n+2) cap2∨v'=.slice (some ⟨g3,0,none⟩) (n+3) cap3)→∀ g,v'.ownBlock=some g→(g < wo.heap.size∧T1 g=13)∨wo.heap.size≤g:=by
      have hV:∀ g,(Value.slice aoV n capV).ownBlock=some g→(g < wo.heap.size∧T1 g=13)∨wo.heap.size≤g:=fun g hg=>.inl ⟨(unhide HLT g hg).2,(unhide HV).2 g hg⟩
      rintro v' (rfl | rfl | rfl | rfl) g hg
      ·exact hV g hg
      ·rcases unhide HOW1 g hg with h | h
       ·exact hV g h
       ·exact .inr (Nat.le_trans HSZ0 h)
      ·rcases unhide HOW2 g hg with h | h
       ·exact hV g h
       ·exact .inr (Nat.le_trans HSZ1 h)
      ·rcases hown3 g hg with h | h
       ·exact hV g h
       ·exact .inr (Nat.le_trans (Nat.le_trans hsz1 hgC.size) h)
     have HO:=hide ho
     have hus3:=hGD.row (unhide HE11).1 (fun g hg=>by have:=(unhide HE11).2 g hg; omega)
     have hks3:=hGD.row (unhide HE12).1 (fun g hg=>by have:=(unhide HE12).2 g hg; omega)
     have hW3:=(unhide HW).grs hGD (by omega)
     clear hgC hs3 hRC hvC1 hvC2 hv3 hl3 hown3 ho hGC hsz1 HOW1 HOW2 HK1 HK2
     have HNN:=hide hnn
     clear hnn
     obtain ⟨aoU,capU,rfl⟩:=hus3.slice
     obtain ⟨L4,hL4⟩:∃ L4:List (Value×Int),L4=[(.slice aoV n capV,m),(.slice (some ⟨g1,0,none⟩) (n+1) cap1,m),(.slice (some ⟨g2,0,none⟩) (n+2) cap2,m),(.slice (some ⟨g3,0,none⟩) (n+3) cap3,m)]:=⟨_,rfl⟩
     have hL4l:L4.length=4:=by rw [hL4]; rfl
     have hgD:=World.grownBy_alloc w3 (.cells #[.slice aoV n capV,.slice (some ⟨g1,0,none⟩) (n+1) cap1,.slice (some ⟨g2,0,none⟩) (n+2) cap2,.slice (some ⟨g3,0,none⟩) (n+3) cap3] 43) none
     have hs4:RowAt 43 1 (fun p:Value×Int=>[p.1]) 0 (.slice (some ⟨w3.heap.size,0,none⟩) 4 4) L4 (w3.alloc (.cells #[.slice aoV n capV,.slice (some ⟨g1,0,none⟩) (n+1) cap1,.slice (some ⟨g2,0,none⟩) (n+2) cap2,.slice (some ⟨g3,0,none⟩) (n+3) cap3] 43)):=by
      have:=(RowAt.litn (e:=43) (size:=1) (enc:=fun p:Value×Int=>[p.1]) (fun _=>rfl) w3 L4 #[.slice aoV n capV,.slice (some ⟨g1,0,none⟩) (n+1) cap1,.slice (some ⟨g2,0,none⟩) (n+2) cap2,.slice (some ⟨g3,0,none⟩) (n+3) cap3] (by rw [hL4]; rfl) (by rw [hL4l]; decide)).weak (Nat.zero_le _)
      rw [hL4l] at this
      exact this
     have hone4:∀ y∈L4,∀ c∈[y.1],c.oneCell'=true:=by
      intro y hy c hc
      rw [hL4] at hy
      simp only [List.mem_singleton] at hc
      subst hc
      simp only [List.mem_cons,List.not_mem_nil,or_false] at hy
      rcases hy with rfl | rfl | rfl | rfl<;>rfl
     have hUL:=unhide HFL
     have hb1:fs.length+L4.length≤maxLen:=by rw [hL4l]; unfold maxLen; omega
     have hb2:(fs.length+L4.length) * 24≤140737488355328:=by rw [hL4l]; omega
     have hb3:0 < L4.length:=by rw [hL4l]; decide
     have HB1:=hide hb1
     have HB2:=hide hb2
     have HB3:=hide hb3
     have HONE:=hide hone4
     have HS4:=hide hs4
     have hus4:=hus3.gr hgD
     have hWD:=hW3.gr hgD (by simp)
     have hcW1:(w3.alloc (.cells #[.slice aoV n capV,.slice (some ⟨g1,0,none⟩) (n+1) cap1,.slice (some ⟨g2,0,none⟩) (n+2) cap2,.slice (some ⟨g3,0,none⟩) (n+3) cap3] 43)).cell? ⟨W,3,none⟩=some (.slice aoU fs.length capU):=hWD.cell 3
     have hcW0:w3.cell? ⟨W,3,none⟩=some (.slice aoU fs.length capU):=hW3.cell 3
     have HL4:=hide hL4
     have HL4L:=hide hL4l
     clear hb1 hb2 hb3 hone4 hs4 hL4 hL4l hUL
     have huW:(Value.slice aoU fs.length capU).ownBlock≠some W:=fun e=>by have:=(unhide HE11).2 W e; omega
     have HUW:=hide huW
     clear huW
     go_wp2_with (at_builtin; refine app_two rfl _ _ 70 rfl Tryz.underlying70 Tryz.infoSMatch rfl (by decide) rfl hus4 rfl (unhide HS4) (unhide HB3) (unhide HONE) (unhide HB1) (unhide HB2) ?_)
     intro u5 w5 hu5 hl5
     obtain ⟨g5,cap5,rfl⟩:=hl5.form
     rw [unhide HL4L] at hu5 hl5
     have hW5:WBlk W #[nv,uv1,ov,.slice aoU fs.length capU,k01,ko,kx,lv] w5:=hl5.block hWD (unhide HUW)
     have c51:w5.cell? ⟨W,3,none⟩=some (.slice aoU fs.length capU):=hW5.cell 3
     have z51:=hW5.fz 3
     have hTU:∀ g,(Value.slice aoU fs.length capU).ownBlock=some g→g < wo.heap.size∧T1 g=5:=fun g hg=>⟨((unhide HE11).1.own g hg).2,(unhide HE11).2 g hg⟩
     have hTK:∀ g,kx.ownBlock=some g→g < wo.heap.size∧T1 g=8:=fun g hg=>⟨((unhide HE12).1.own g hg).2,(unhide HE12).2 g hg⟩
     have hgs:=gr_set w5 W 3 (.slice (some ⟨g5,0,none⟩) (fs.length+4) cap5)
     have hWlt:W < wo.heap.size:=row_lt (unhide HW)
     have hvkeep:∀ (v':Value) (k:Nat),(v'=.slice aoV n capV∨v'=.slice (some ⟨g1,0,none⟩) (n+1) cap1∨v'=.slice (some ⟨g2,0,none⟩) (n+2) cap2∨v'=.slice (some ⟨g3,0,none⟩) (n+3) cap3)→RowAt 52 2 ftenc 0 v' (List.replicate k (⟨m,.slice none 0 0,[]⟩:VFt)) w3→RowAt 52 2 ftenc 0 v' (List.replicate k (⟨m,.slice none 0 0,[]⟩:VFt)) (w5.setCell ⟨W,3,none⟩ (.slice (some ⟨g5,0,none⟩) (fs.length+4) cap5)):=by
      intro v' k hv' h
      have h1:=hl5.keepRow (h.gr hgD) (fun g hg e=>by
       have h2:=hTU g e
       rcases unhide HO v' hv' g hg with h3 | h3<;>omega)
      refine h1.other hgs (fun g hg e=>?_)
      simp only [Option.some.injEq] at e
      subst e
      rcases unhide HO v' hv' W hg with h3 | h3<;>omega
     have hw0:=hvkeep _ _ (.inl rfl) hR3
     have hw1:=hvkeep _ _ (.inr (.inl rfl)) hv13
     have hw2:=hvkeep _ _ (.inr (.inr (.inl rfl))) hv23
     have hw3:=hvkeep _ _ (.inr (.inr (.inr rfl))) hv3'
     have hk6:RowAt 3 1 ienc 0 kx (fs.map Prod.snd) (w5.setCell ⟨W,3,none⟩ (.slice (some ⟨g5,0,none⟩) (fs.length+4) cap5)):=by
      have h1:=hl5.keepRow (hks3.gr hgD) (fun g hg e=>by have h2:=hTU g e; have h3:=hTK g hg; omega)
      refine h1.other hgs (fun g hg e=>?_)
      simp only [Option.some.injEq] at e
      subst e
      have h3:=hTK W hg
      omega
     have hu6:RowAt 43 1 (fun p:Value×Int=>[p.1]) 0 (.slice (some ⟨g5,0,none⟩) (fs.length+4) cap5) (fs ++ L4) (w5.setCell ⟨W,3,none⟩ (.slice (some ⟨g5,0,none⟩) (fs.length+4) cap5)):=by
      refine hu5.other hgs (fun g hg e=>?_)
      simp only [Option.some.injEq] at e
      subst e
      rcases hl5.own W hg with h2 | h2
      ·exact unhide HUW h2
      ·have h4:=hgD.size
       omega
     have hW6:WBlk W #[nv,uv1,ov,.slice (some ⟨g5,0,none⟩) (fs.length+4) cap5,k01,ko,kx,lv] (w5.setCell ⟨W,3,none⟩ (.slice (some ⟨g5,0,none⟩) (fs.length+4) cap5)):=hW5.set 3 _
     have hg5own:g5 < w3.heap.size+1→T1 g5=5∧g5 < wo.heap.size:=by
      intro hlt
      rcases hl5.own g5 rfl with h2 | h2
      ·exact ⟨(hTU g5 h2).2,(hTU g5 h2).1⟩
      ·simp at h2; omega
     have hG6:GrS (fun k=>T1 k=1∨T1 k=5∨T1 k=8∨T1 k=13) wo (w5.setCell ⟨W,3,none⟩ (.slice (some ⟨g5,0,none⟩) (fs.length+4) cap5)):=by
      have h1:GrS (fun k=>T1 k=1∨T1 k=5∨T1 k=8∨T1 k=13) wo w3:=hGD.mono (fun k hk=>.inr (.inr (.inr hk)))
      have h2:=(h1.then hgD (by simp)).trans (hl5.gr (fun g hg=>.inr (.inl (hTU g hg).2)))
      exact h2.then hgs (fun g hg=>by simp only [Option.some.injEq] at hg; subst hg; exact .inr (.inl hTW1))
     obtain ⟨w6,hw6⟩:∃ w6,w5.setCell ⟨W,3,none⟩ (.slice (some ⟨g5,0,none⟩) (fs.length+4) cap5)=w6:=⟨_,rfl⟩
     have hs56:w5.heap.size=w6.heap.size:=by rw [←hw6]; simp [World.setCell]
     have hs35:w3.heap.size+1≤w5.heap.size:=by
      have h1:GrS (fun k=>T1 k=5) (w3.alloc (.cells #[.slice aoV n capV,.slice (some ⟨g1,0,none⟩) (n+1) cap1,.slice (some ⟨g2,0,none⟩) (n+2) cap2,.slice (some ⟨g3,0,none⟩) (n+3) cap3] 43)) w5:=hl5.gr (fun g hg=>(hTU g hg).2)
      have h2:=h1.size
      simp at h2
      omega
     have hlt5:g5 < w5.heap.size:=(hu5.own g5 rfl).2
     have hlt3:∀ (v':Value) (k:Nat),RowAt 52 2 ftenc 0 v' (List.replicate k (⟨m,.slice none 0 0,[]⟩:VFt)) w3→∀ g,v'.ownBlock=some g→g < w3.heap.size:=fun v' k h g hg=>(h.own g hg).2
     have q0:=hlt3 _ _ hR3
     have q1:=hlt3 _ _ hv13
     have q2:=hlt3 _ _ hv23
     have q3:=hlt3 _ _ hv3'
     rw [hw6] at hw0 hw1 hw2 hw3 hk6 hu6 hW6 hG6
     have hk0:=unhide HK0
     subst hk0
     have hgX:=gr_drew (World.grownBy_alloc w6 (.cells #[.int .i64 m,.int .i64 m,.int .i64 m,.int .i64 m] 3) none)
     have hsX:IsAt 0 (.slice (some ⟨w6.heap.size,0,none⟩) 4 4) (List.replicate 4 m) (w6.alloc (.cells #[.int .i64 m,.int .i64 m,.int .i64 m,.int .i64 m] 3)).drew:=((RowAt.litn ienc_len w6 (List.replicate 4 m) #[.int .i64 m,.int .i64 m,.int .i64 m,.int .i64 m] rfl (by simp [maxLen])).weak (Nat.zero_le _)).heap rfl
     have c64:w6.cell? ⟨W,6,none⟩=some (.slice aoK fs.length capK):=hW6.cell 6
     have c64':(w6.alloc (.cells #[.int .i64 m,.int .i64 m,.int .i64 m,.int .i64 m] 3)).cell? ⟨W,6,none⟩=some (.slice aoK fs.length capK):=(World.grownBy_alloc w6 _ none).cell c64 (by simp)
     obtain ⟨WX,hWX⟩:∃ WX,(w6.alloc (.cells #[.int .i64 m,.int .i64 m,.int .i64 m,.int .i64 m] 3)).drew=WX:=⟨_,rfl⟩
     have hsXs:WX.heap.size=w6.heap.size+1:=by rw [←hWX]; simp [World.drew]
     rw [hWX] at hgX hsX
     have hkX:=hk6.gr hgX
     have hKW:(Value.slice aoK fs.length capK).ownBlock≠some W:=fun e=>by have:=hTK W e; omega
     have hFin:∀ g7 cap7 w7,RowAt 3 1 ienc 0 (.slice (some ⟨g7,0,none⟩) (fs.length+4) cap7) (fs.map Prod.snd ++ List.replicate 4 m) w7→Longer (.slice aoK fs.length capK) (.slice (some ⟨g7,0,none⟩) (fs.length+4) cap7) fs.length 4 WX w7→
       w7.cell? ⟨W,6,none⟩=some (.slice aoK fs.length capK)∧w7.frozen? ⟨W,6,none⟩=false∧OwnMPost T W nv ov ko lv us fs n w (.returned (.tuple #[])) (w7.setCell ⟨W,6,none⟩ (.slice (some ⟨g7,0,none⟩) (fs.length+4) cap7)):=by
      intro g7 cap7 w7 hv7 hl7
      have hW7:WBlk W #[nv,uv1,ov,.slice (some ⟨g5,0,none⟩) (fs.length+4) cap5,k01,ko,.slice aoK fs.length capK,lv] w7:=hl7.block (hW6.gr hgX (by simp)) hKW
      have hgs7:=gr_set w7 W 6 (.slice (some ⟨g7,0,none⟩) (fs.length+4) cap7)
      have hG7:=((hG6.then hgX (by simp)).trans (hl7.gr (fun g hg=>.inr (.inr (.inl (hTK g hg).2))))).then hgs7 (fun g hg=>by simp only [Option.some.injEq] at hg; subst hg; exact .inr (.inl hTW1))
      have hg7:g7 < w6.heap.size+1→T1 g7=8∧g7 < wo.heap.size:=by
       intro hlt
       rcases hl7.own g7 rfl with h2 | h2
       ·exact ⟨(hTK g7 h2).2,(hTK g7 h2).1⟩
       ·omega
      have hkeep:∀ {α:Type} {e:TypeId} {size:Nat} {enc:α→List Value} (x:Value) (y:List α),RowAt e size enc 0 x y w6→(∀ g,x.ownBlock=some g→(g < wo.heap.size∧T1 g≠8∧T1 g≠1)∨wo.heap.size≤g)→RowAt e size enc 0 x y (w7.setCell ⟨W,6,none⟩ (.slice (some ⟨g7,0,none⟩) (fs.length+4) cap7)):=by
       intro α e size enc x y h hx
       have h1:=hl7.keepRow (h.gr hgX) (fun g hg e=>by
        have h2:=hTK g e
        rcases hx g hg with h3 | h3<;>omega)
       refine h1.other hgs7 (fun g hg e=>?_)
       simp only [Option.some.injEq] at e
       subst e
       rcases hx W hg with h3 | h3<;>omega
      have hLm:L4.map Prod.snd=List.replicate 4 m:=by rw [unhide HL4]; rfl
      obtain ⟨T',hT'⟩:∃ T':Nat→Nat,∀ k,T' k=if k < wo.heap.size then (if T1 k=13 then 10 else T1 k) else if k=g5 then 5 else if k=g7 then 8 else 10:=⟨_,fun _=>rfl⟩
      have hTo:∀ k,k < wo.heap.size→T1 k≠13→T' k=T1 k:=fun k h1 h2=>by rw [hT',if_pos h1,if_neg h2]
      have hNF:NumsAt T' uv1 k01 us1 (w7.setCell ⟨W,6,none⟩ (.slice (some ⟨g7,0,none⟩) (fs.length+4) cap7)):=by
       obtain ⟨a1,a2,a3⟩:=unhide HN1
       refine ⟨a1.keep2 hG7 (fun k hk=>by omega) (fun k hk hk2=>by rw [hTo k hk (by omega)]; exact hk2),a2.keep2 hG7 (fun k hk=>by omega) (fun k hk hk2=>by rw [hTo k hk (by omega)]; exact hk2),fun p hp=>?_⟩
       obtain ⟨j,hj⟩:=a3 p hp
       exact ⟨j,hj.keep2 hG7 (fun k hk=>by omega) (fun k hk hk2=>by rw [hTo k hk (by omega)]; exact hk2)⟩
      have hGF:GrS (fun k=>T k=1∨T k=3∨T k=6∨T k=5∨T k=8∨InH (T k)) w (w7.setCell ⟨W,6,none⟩ (.slice (some ⟨g7,0,none⟩) (fs.length+4) cap7)):=by
       refine ((unhide HG1).mono (fun k hk=>?_)).comp hG7 (fun k hk hn=>?_)
       ·rcases hk with h | h | h | ⟨j,_,h⟩
        ·exact .inl h
        ·exact .inr (.inl h)
        ·exact .inr (.inr (.inl h))
        ·exact .inr (.inr (.inr (.inr (.inr ⟨by omega,by omega⟩))))
       ·have hI:¬ InH (T k):=fun h=>hn (.inr (.inr (.inr (.inr (.inr h)))))
        have h1:=unhide HT1 k hk (fun j hj e=>hI ⟨by omega,by omega⟩)
        rw [h1]
        rintro (h | h | h | h)
        ·exact hn (.inl h)
        ·exact hn (.inr (.inr (.inr (.inl h))))
        ·exact hn (.inr (.inr (.inr (.inr (.inl h)))))
        ·exact hI ⟨by omega,by omega⟩
      have hTF:∀ k,k < w.heap.size→¬ InH (T k)→T' k=T k:=by
       intro k hk hI
       have h1:=unhide HT1 k hk (fun j hj e=>hI ⟨by omega,by omega⟩)
       rw [hTo k (Nat.lt_of_lt_of_le hk (unhide HG1).size) (by rw [h1]; intro e; exact hI ⟨by omega,by omega⟩),h1]
      refine ⟨hW7.cell 6,hW7.fz 6,rfl,T',uv1,k01,us1,.slice (some ⟨g5,0,none⟩) (fs.length+4) cap5,.slice (some ⟨g7,0,none⟩) (fs.length+4) cap7,fs ++ L4,hW7.set 6 _,hNF,⟨⟨?_,?_⟩,⟨?_,?_⟩,?_⟩,unhide HU1,by rw [List.length_append,unhide HL4L],hGF,hTF⟩
      ·refine hkeep _ _ hu6 (fun g hg=>?_)
       simp only [Value.ownBlock,Option.some.injEq] at hg
       subst hg
       by_cases hlt:g5 < wo.heap.size
       ·have:=hg5own (by omega)
        exact .inl ⟨hlt,by omega,by omega⟩
       ·exact .inr (by omega)
      ·intro g hg
       simp only [Value.ownBlock,Option.some.injEq] at hg
       subst hg
       by_cases hlt:g5 < wo.heap.size
       ·have:=hg5own (by omega)
        rw [hTo g5 hlt (by omega)]
        exact this.1
       ·rw [hT',if_neg hlt,if_pos rfl]
      ·rw [List.map_append,hLm]
       refine hv7.other hgs7 (fun g hg e=>?_)
       simp only [Value.ownBlock,Option.some.injEq] at hg e
       subst hg
       subst e
       have:=hg7 (by omega)
       omega
      ·intro g hg
       simp only [Value.ownBlock,Option.some.injEq] at hg
       subst hg
       by_cases hlt:g7 < wo.heap.size
       ·have:=hg7 (by omega)
        rw [hTo g7 hlt (by omega)]
        exact this.1
       ·have hne:g7≠g5:=by
         intro e
         have:=hg7 (by omega)
         omega
        rw [hT',if_neg hlt,if_neg hne,if_pos rfl]
      ·have hnew:∀ (v':Value) (k:Nat),(v'=.slice aoV n capV∨v'=.slice (some ⟨g1,0,none⟩) (n+1) cap1∨v'=.slice (some ⟨g2,0,none⟩) (n+2) cap2∨v'=.slice (some ⟨g3,0,none⟩) (n+3) cap3)→RowAt 52 2 ftenc 0 v' (List.replicate k (⟨m,.slice none 0 0,[]⟩:VFt)) w6→(∀ g,v'.ownBlock=some g→g < w3.heap.size)→∃ j,TRow T' 10 52 2 ftenc v' (List.replicate j (⟨m,.slice none 0 0,[]⟩:VFt)) (w7.setCell ⟨W,6,none⟩ (.slice (some ⟨g7,0,none⟩) (fs.length+4) cap7)):=by
        intro v' k hv' h hlt
        refine ⟨k,hkeep v' _ h (fun g hg=>?_),fun g hg=>?_⟩
        ·rcases unhide HO v' hv' g hg with h3 | h3
         ·exact .inl ⟨h3.1,by omega,by omega⟩
         ·exact .inr h3
        ·rcases unhide HO v' hv' g hg with h3 | h3
         ·rw [hT',if_pos h3.1,if_pos h3.2]
         ·have hl:=hlt g hg
          have hn5:g≠g5:=by
           intro e
           have:=hg5own (by omega)
           omega
          have hn7:g≠g7:=by
           intro e
           have:=hg7 (by omega)
           omega
          rw [hT',if_neg (by omega),if_neg hn5,if_neg hn7]
       intro p hp
       rcases List.mem_append.1 hp with hp | hp
       ·obtain ⟨j,hj⟩:=unhide HE13 p hp
        exact ⟨j,hj.keep2 hG7 (fun k hk=>by omega) (fun k hk hk2=>by rw [hTo k hk (by omega)]; exact hk2)⟩
       ·rw [unhide HL4] at hp
        simp only [List.mem_cons,List.not_mem_nil,or_false] at hp
        rcases hp with rfl | rfl | rfl | rfl
        ·exact hnew _ _ (.inl rfl) hw0 q0
        ·exact hnew _ _ (.inr (.inl rfl)) hw1 q1
        ·exact hnew _ _ (.inr (.inr (.inl rfl))) hw2 q2
        ·exact hnew _ _ (.inr (.inr (.inr rfl))) hw3 q3
     have HFIN:=hide hFin
     have HKX:=hide hkX
     have HSX:=hide hsX
     have HWX:=hide hWX
     have HW6:=hide hw6
     have hUL:=unhide HFL
     have hb1:(fs.map Prod.snd).length+(List.replicate 4 m).length≤maxLen:=by rw [List.length_map,List.length_replicate]; unfold maxLen; omega
     have hb2:((fs.map Prod.snd).length+(List.replicate 4 m).length) * 8≤140737488355328:=by rw [List.length_map,List.length_replicate]; omega
     have HBX1:=hide hb1
     have HBX2:=hide hb2
     clear hFin hkX hsX hWX hb1 hb2 hUL hk6 hu6 hW6 hG6 hw0 hw1 hw2 hw3 hvkeep hlt3 q0 q1 q2 q3 hR3 hv13 hv23 hv3' hg5own hTU hTK hu5 hl5 hus3 hus4 hks3 hgD hW3 hWD hW5 hcW1 hcW0 hGD hgs hgX hKW hw6
     go_wp2_with fail
     rw [unhide HL4L,unhide HW6]
     go_region_law (rw [unhide HWX]; refine app_two_step rfl _ _ 35 rfl Tryz.underlying35 Tryz.infoInt rfl (by decide) (by simp [Act.eval]) (unhide HKX) (by simp [Act.eval]) (unhide HSX) (by simp) (fun y _=>ienc_one y) (unhide HBX1) (unhide HBX2) ?_; intro kv w7 hv7 hl7; rw [List.length_map,List.length_replicate] at hl7; obtain ⟨g7,cap7,rfl⟩:=hl7.form; obtain ⟨f1,f2,f3⟩:=unhide HFIN g7 cap7 w7 hv7 hl7; have F3:=hide f3; clear f3 hv7 hl7)
     all_goals
      go_wp2_with fail
      go_end0
      have F4:=unhide F3
      rw [←unhide HNN] at F4
      exact F4
end Go.Proofs.YtolhbeekfjnfmaaGreatDoor
namespace Go.Proofs.YtolhbeekfjnfmaaGreatDoor
open Go.RowKit
def LentAt (T:Nat→Nat) (lv:Value) (ls:List Value) (w:World):Prop:=
 TRow T 9 35 1 (fun v:Value=>[v]) lv ls w∧∀ v∈ls,∃ n,TRow T 10 3 1 ienc v (List.replicate n (-99)) w
set_option maxRecDepth 100000 in
set_option maxHeartbeats 4000000 in
theorem looks_full (T:Nat→Nat) (W:Nat) (nv uv fv mv k0 k1 k2 lv:Value) (us fs ms:List (Value×Int)) (ls:List Value) (w:World)
  (hW:WBlk W #[nv,uv,fv,mv,k0,k1,k2,lv] w) (hN:NumsAt T uv k0 us w) (hL:LentAt T lv ls w) (hF:ElsAt 4 7 47 37 T fv k1 fs w) (hM:ElsAt 5 8 43 52 T mv k2 ms w) :
  Calls Tryz.prog 34 #[.pointer (some ⟨W,0,none⟩)] w fun e w'=>e=.returned (.bool true)∧w.grownBy w' none:=by
 obtain ⟨aU,cU,rfl⟩:=hN.1.1.slice
 obtain ⟨aK0,cK0,hk0⟩:=hN.2.1.1.slice
 obtain ⟨aL,cL,rfl⟩:=hL.1.1.slice
 obtain ⟨aF,cF,rfl⟩:=hF.1.1.slice
 obtain ⟨aK1,cK1,hk1⟩:=hF.2.1.1.slice
 obtain ⟨aM,cM,rfl⟩:=hM.1.1.slice
 obtain ⟨aK2,cK2,hk2⟩:=hM.2.1.1.slice
 rw [List.length_map] at hk0 hk1 hk2
 subst hk0 hk1 hk2
 have lU:=hN.1.1.le
 have lL:=hL.1.1.le
 have lF:=hF.1.1.le
 have lM:=hM.1.1.le
 unfold maxLen at lU lL lF lM
 have c1:w.cell? ⟨W,1,none⟩=some (.slice aU us.length cU):=hW.cell 1
 have c2:w.cell? ⟨W,2,none⟩=some (.slice aF fs.length cF):=hW.cell 2
 have c3:w.cell? ⟨W,3,none⟩=some (.slice aM ms.length cM):=hW.cell 3
 have c4:w.cell? ⟨W,4,none⟩=some (.slice aK0 us.length cK0):=hW.cell 4
 have c5:w.cell? ⟨W,5,none⟩=some (.slice aK1 fs.length cK1):=hW.cell 5
 have c6:w.cell? ⟨W,6,none⟩=some (.slice aK2 ms.length cK2):=hW.cell 6
 have c7:w.cell? ⟨W,7,none⟩=some (.slice aL ls.length cL):=hW.cell 7
 have HN:=hide hN
 have HL:=hide hL
 have HF:=hide hF
 have HM:=hide hM
 clear hN hL hF hM hW
 go_enter Tryz.func34,Tryz.ntmps34
 go_wp2
 go_loopw [3] (fun x w'=>∃ i:Nat,i≤us.length∧x=.int .i64 i∧w.grownBy w' none) (fun x _=>us.length - (intOf x).toNat)
 case atStart=>exact ⟨0,Nat.zero_le _,rfl,World.grownBy.refl _ _⟩
 case round=>
  obtain ⟨i,hi,rfl,hg⟩:=hrel
  have d1:=hg.cell c1 (by simp)
  have d4:=hg.cell c4 (by simp)
  by_cases hlt:i < us.length
  ·have hdi:decide (i < us.length)=true:=by simpa using hlt
   obtain ⟨p,hp⟩:∃ p,us[i]?=some p:=⟨us[i],List.getElem?_eq_getElem hlt⟩
   obtain ⟨g,cp,hv,hcs⟩:=((unhide HN).1.1.gr hg).cells hp
   simp only [Value.slice.injEq,true_and] at hv
   obtain ⟨rfl,rfl⟩:=hv
   have hpm:(us.map Prod.snd)[i]?=some p.2:=by rw [List.getElem?_map,hp]; rfl
   obtain ⟨gk,ck,hvk,hck⟩:=((unhide HN).2.1.1.gr hg).cells hpm
   simp only [Value.slice.injEq] at hvk
   obtain ⟨rfl,hzz,rfl⟩:=hvk
   clear hzz
   have x0:wr.cell? ⟨g,i,none⟩=some p.1:=by have:=hcs 0 (by omega); simpa using this
   have y0:wr.cell? ⟨gk,i,none⟩=some (.int .i64 p.2):=by have:=hck 0 (by omega); simpa [ienc] using this
   obtain ⟨n,hn,_⟩:=(unhide HN).2.2 p (List.mem_of_getElem? hp)
   have ln:=hn.le
   rw [List.length_replicate] at ln
   unfold maxLen at ln
   obtain ⟨ap,cpp,hpv⟩:=hn.slice
   rw [List.length_replicate] at hpv
   rw [hpv] at x0
   have HNR:=hide hn
   have HPV:=hide hpv
   clear hcs hck hp hpm hn hpv
   obtain ⟨wo,rfl⟩:∃ wo:World,wo=wr:=⟨_,rfl⟩
   go_wp2
   go_loopw [4] (fun z w'=>∃ k:Nat,k≤n∧z=.int .i64 k∧wo.grownBy w' none) (fun z _=>n - (intOf z).toNat)
   case atStart=>exact ⟨0,Nat.zero_le _,rfl,World.grownBy.refl _ _⟩
   case round=>
    obtain ⟨k,hk,rfl,hg2⟩:=hrel
    have e1:=hg2.cell d1 (by simp)
    have e4:=hg2.cell d4 (by simp)
    have ex0:=hg2.cell x0 (by simp)
    have ey0:=hg2.cell y0 (by simp)
    by_cases hlt2:k < n
    ·have hdk:decide (k < n)=true:=by simpa using hlt2
     have hrk:(List.replicate n p.2)[k]?=some p.2:=by rw [List.getElem?_replicate,if_pos hlt2]
     obtain ⟨gp,cp3,hv3,hc3⟩:=((unhide HNR).gr (gr_trans hg hg2)).cells hrk
     rw [unhide HPV] at hv3
     simp only [Value.slice.injEq] at hv3
     obtain ⟨rfl,hzz,rfl⟩:=hv3
     clear hzz
     have ez0:wr.cell? ⟨gp,k,none⟩=some (.int .i64 p.2):=by have:=hc3 0 (by omega); simpa [ienc] using this
     have hdx:(p.2 != p.2)=false:=by simp
     clear hc3 hrk
     go_wp2
     go_quiet (fail)
     go_wp2
     go_roundw
     case rel=>exact ⟨k+1,by omega,by go_num,gr_trans hg2 (gr_drewN _ _ _)⟩
     case measure=>simp [intOf]; omega
    ·have hdk:decide (k < n)=false:=by simpa using hlt2
     go_wp2
     go_roundw
     case rel=>exact ⟨i+1,by omega,by go_num,gr_trans hg hg2⟩
     case measure=>simp [intOf]; omega
  ·have hdi:decide (i < us.length)=false:=by simpa using hlt
   obtain ⟨wa,rfl⟩:∃ wa:World,wa=wr:=⟨_,rfl⟩
   go_wp2
   go_loopw [5] (fun x w'=>∃ i:Nat,i≤ls.length∧x=.int .i64 i∧w.grownBy w' none) (fun x _=>ls.length - (intOf x).toNat)
   case atStart=>exact ⟨0,Nat.zero_le _,rfl,hg⟩
   case round=>
    clear d1 d4 hg hlt hdi
    obtain ⟨i,hi,rfl,hg⟩:=hrel
    have d7:=hg.cell c7 (by simp)
    by_cases hlt:i < ls.length
    ·have hdi:decide (i < ls.length)=true:=by simpa using hlt
     obtain ⟨p,hp⟩:∃ p,ls[i]?=some p:=⟨ls[i],List.getElem?_eq_getElem hlt⟩
     obtain ⟨g,cp,hv,hcs⟩:=((unhide HL).1.1.gr hg).cells hp
     simp only [Value.slice.injEq,true_and] at hv
     obtain ⟨rfl,rfl⟩:=hv
     have x0:wr.cell? ⟨g,i,none⟩=some p:=by have:=hcs 0 (by omega); simpa using this
     obtain ⟨n,hn,_⟩:=(unhide HL).2 p (List.mem_of_getElem? hp)
     have ln:=hn.le
     rw [List.length_replicate] at ln
     unfold maxLen at ln
     obtain ⟨ap,cpp,hpv⟩:=hn.slice
     rw [List.length_replicate] at hpv
     rw [hpv] at x0
     have HNR:=hide hn
     have HPV:=hide hpv
     clear hcs hp hn hpv
     obtain ⟨wo,rfl⟩:∃ wo:World,wo=wr:=⟨_,rfl⟩
     go_wp2
     go_loopw [6] (fun z w'=>∃ k:Nat,k≤n∧z=.int .i64 k∧wo.grownBy w' none) (fun z _=>n - (intOf z).toNat)
     case atStart=>exact ⟨0,Nat.zero_le _,rfl,World.grownBy.refl _ _⟩
     case round=>
      obtain ⟨k,hk,rfl,hg2⟩:=hrel
      have e7:=hg2.cell d7 (by simp)
      have ex0:=hg2.cell x0 (by simp)
      by_cases hlt2:k < n
      ·have hdk:decide (k < n)=true:=by simpa using hlt2
       have hrk:(List.replicate n (-99:Int))[k]?=some (-99):=by rw [List.getElem?_replicate,if_pos hlt2]
       obtain ⟨gp,cp3,hv3,hc3⟩:=((unhide HNR).gr (gr_trans hg hg2)).cells hrk
       rw [unhide HPV] at hv3
       simp only [Value.slice.injEq] at hv3
       obtain ⟨rfl,hzz,rfl⟩:=hv3
       clear hzz
       have ez0:wr.cell? ⟨gp,k,none⟩=some (.int .i64 (-99)):=by have:=hc3 0 (by omega); simpa [ienc] using this
       clear hc3 hrk
       go_wp2
       go_roundw
       case rel=>exact ⟨k+1,by omega,by go_num,hg2⟩
       case measure=>simp [intOf]; omega
      ·have hdk:decide (k < n)=false:=by simpa using hlt2
       go_wp2
       go_roundw
       case rel=>exact ⟨i+1,by omega,by go_num,gr_trans hg hg2⟩
       case measure=>simp [intOf]; omega
    ·have hdi:decide (i < ls.length)=false:=by simpa using hlt
     obtain ⟨wb,rfl⟩:∃ wb:World,wb=wr:=⟨_,rfl⟩
     go_wp2
     go_loopw [7] (fun x w'=>∃ i:Nat,i≤fs.length∧x=.int .i64 i∧w.grownBy w' none) (fun x _=>fs.length - (intOf x).toNat)
     case atStart=>exact ⟨0,Nat.zero_le _,rfl,hg⟩
     case round=>
      clear d7 hg hlt hdi
      obtain ⟨i,hi,rfl,hg⟩:=hrel
      have dA:=hg.cell c2 (by simp)
      have dB:=hg.cell c5 (by simp)
      by_cases hlt:i < fs.length
      ·have hdi:decide (i < fs.length)=true:=by simpa using hlt
       obtain ⟨p,hp⟩:∃ p,fs[i]?=some p:=⟨fs[i],List.getElem?_eq_getElem hlt⟩
       obtain ⟨g,cp,hv,hcs⟩:=((unhide HF).1.1.gr hg).cells hp
       simp only [Value.slice.injEq,true_and] at hv
       obtain ⟨rfl,rfl⟩:=hv
       have hpm:(fs.map Prod.snd)[i]?=some p.2:=by rw [List.getElem?_map,hp]; rfl
       obtain ⟨gk,ck,hvk,hck⟩:=((unhide HF).2.1.1.gr hg).cells hpm
       simp only [Value.slice.injEq] at hvk
       obtain ⟨rfl,hzz,rfl⟩:=hvk
       clear hzz
       have x0:wr.cell? ⟨g,i,none⟩=some p.1:=by have:=hcs 0 (by omega); simpa using this
       have y0:wr.cell? ⟨gk,i,none⟩=some (.int .i64 p.2):=by have:=hck 0 (by omega); simpa [ienc] using this
       obtain ⟨n,hn,_⟩:=(unhide HF).2.2 p (List.mem_of_getElem? hp)
       have ln:=hn.le
       rw [List.length_replicate] at ln
       unfold maxLen at ln
       obtain ⟨ap,cpp,hpv⟩:=hn.slice
       rw [List.length_replicate] at hpv
       rw [hpv] at x0
       have HNR:=hide hn
       have HPV:=hide hpv
       clear hcs hck hp hpm hn hpv
       obtain ⟨wo,rfl⟩:∃ wo:World,wo=wr:=⟨_,rfl⟩
       go_wp2
       go_loopw [8] (fun z w'=>∃ k:Nat,k≤n∧z=.int .i64 k∧wo.grownBy w' none) (fun z _=>n - (intOf z).toNat)
       case atStart=>exact ⟨0,Nat.zero_le _,rfl,World.grownBy.refl _ _⟩
       case round=>
        obtain ⟨k,hk,rfl,hg2⟩:=hrel
        have eA:=hg2.cell dA (by simp)
        have eB:=hg2.cell dB (by simp)
        have ex0:=hg2.cell x0 (by simp)
        have ey0:=hg2.cell y0 (by simp)
        by_cases hlt2:k < n
        ·have hdk:decide (k < n)=true:=by simpa using hlt2
         have hrk:(List.replicate n (⟨p.2,.slice none 0 0,[]⟩:VFt))[k]?=some ⟨p.2,.slice none 0 0,[]⟩:=by rw [List.getElem?_replicate,if_pos hlt2]
         obtain ⟨gp,cp3,hv3,hc3⟩:=((unhide HNR).gr (gr_trans hg hg2)).cells hrk
         rw [unhide HPV] at hv3
         simp only [Value.slice.injEq] at hv3
         obtain ⟨rfl,hzz,rfl⟩:=hv3
         clear hzz
         have ez0:wr.cell? ⟨gp,k * 2,none⟩=some (.int .i64 p.2):=hc3 0 (by omega)
         have ez1:wr.cell? ⟨gp,k * 2+1,none⟩=some (.slice none 0 0):=hc3 1 (by omega)
         have hdx:(p.2 != p.2)=false:=by simp
         clear hc3 hrk
         go_wp2
         go_quiet (fail)
         go_wp2
         go_roundw
         case rel=>exact ⟨k+1,by omega,by go_num,gr_trans hg2 (gr_drewN _ _ _)⟩
         case measure=>simp [intOf]; omega
        ·have hdk:decide (k < n)=false:=by simpa using hlt2
         go_wp2
         go_roundw
         case rel=>exact ⟨i+1,by omega,by go_num,gr_trans hg hg2⟩
         case measure=>simp [intOf]; omega
      ·have hdi:decide (i < fs.length)=false:=by simpa using hlt
       obtain ⟨wc2,rfl⟩:∃ wc2:World,wc2=wr:=⟨_,rfl⟩
       go_wp2
       go_loopw [9] (fun x w'=>∃ i:Nat,i≤ms.length∧x=.int .i64 i∧w.grownBy w' none) (fun x _=>ms.length - (intOf x).toNat)
       case atStart=>exact ⟨0,Nat.zero_le _,rfl,hg⟩
       case round=>
        clear dA dB hg hlt hdi
        obtain ⟨i,hi,rfl,hg⟩:=hrel
        have dA:=hg.cell c3 (by simp)
        have dB:=hg.cell c6 (by simp)
        by_cases hlt:i < ms.length
        ·have hdi:decide (i < ms.length)=true:=by simpa using hlt
         obtain ⟨p,hp⟩:∃ p,ms[i]?=some p:=⟨ms[i],List.getElem?_eq_getElem hlt⟩
         obtain ⟨g,cp,hv,hcs⟩:=((unhide HM).1.1.gr hg).cells hp
         simp only [Value.slice.injEq,true_and] at hv
         obtain ⟨rfl,rfl⟩:=hv
         have hpm:(ms.map Prod.snd)[i]?=some p.2:=by rw [List.getElem?_map,hp]; rfl
         obtain ⟨gk,ck,hvk,hck⟩:=((unhide HM).2.1.1.gr hg).cells hpm
         simp only [Value.slice.injEq] at hvk
         obtain ⟨rfl,hzz,rfl⟩:=hvk
         clear hzz
         have x0:wr.cell? ⟨g,i,none⟩=some p.1:=by have:=hcs 0 (by omega); simpa using this
         have y0:wr.cell? ⟨gk,i,none⟩=some (.int .i64 p.2):=by have:=hck 0 (by omega); simpa [ienc] using this
         obtain ⟨n,hn,_⟩:=(unhide HM).2.2 p (List.mem_of_getElem? hp)
         have ln:=hn.le
         rw [List.length_replicate] at ln
         unfold maxLen at ln
         obtain ⟨ap,cpp,hpv⟩:=hn.slice
         rw [List.length_replicate] at hpv
         rw [hpv] at x0
         have HNR:=hide hn
         have HPV:=hide hpv
         clear hcs hck hp hpm hn hpv
         obtain ⟨wo,rfl⟩:∃ wo:World,wo=wr:=⟨_,rfl⟩
         go_wp2
         go_loopw [10] (fun z w'=>∃ k:Nat,k≤n∧z=.int .i64 k∧wo.grownBy w' none) (fun z _=>n - (intOf z).toNat)
         case atStart=>exact ⟨0,Nat.zero_le _,rfl,World.grownBy.refl _ _⟩
         case round=>
          obtain ⟨k,hk,rfl,hg2⟩:=hrel
          have eA:=hg2.cell dA (by simp)
          have eB:=hg2.cell dB (by simp)
          have ex0:=hg2.cell x0 (by simp)
          have ey0:=hg2.cell y0 (by simp)
          by_cases hlt2:k < n
          ·have hdk:decide (k < n)=true:=by simpa using hlt2
           have hrk:(List.replicate n (⟨p.2,.slice none 0 0,[]⟩:VFt))[k]?=some ⟨p.2,.slice none 0 0,[]⟩:=by rw [List.getElem?_replicate,if_pos hlt2]
           obtain ⟨gp,cp3,hv3,hc3⟩:=((unhide HNR).gr (gr_trans hg hg2)).cells hrk
           rw [unhide HPV] at hv3
           simp only [Value.slice.injEq] at hv3
           obtain ⟨rfl,hzz,rfl⟩:=hv3
           clear hzz
           have ez0:wr.cell? ⟨gp,k * 2,none⟩=some (.int .i64 p.2):=hc3 0 (by omega)
           have ez1:wr.cell? ⟨gp,k * 2+1,none⟩=some (.slice none 0 0):=hc3 1 (by omega)
           have hdx:(p.2 != p.2)=false:=by simp
           clear hc3 hrk
           go_wp2
           go_quiet (fail)
           go_wp2
           go_roundw
           case rel=>exact ⟨k+1,by omega,by go_num,gr_trans hg2 (gr_drewN _ _ _)⟩
           case measure=>simp [intOf]; omega
          ·have hdk:decide (k < n)=false:=by simpa using hlt2
           go_wp2
           go_roundw
           case rel=>exact ⟨i+1,by omega,by go_num,gr_trans hg hg2⟩
           case measure=>simp [intOf]; omega
        ·have hdi:decide (i < ms.length)=false:=by simpa using hlt
         go_wp2
         go_ret
         exact ⟨rfl,hg⟩
end Go.Proofs.YtolhbeekfjnfmaaGreatDoor
namespace Go.Proofs.YtolhbeekfjnfmaaGreatDoor
open Go.RowKit
theorem own_fp {w w':World} {base:Nat} {e:TypeId} {size:Nat} {v:Value} {n:Nat} {xs:List Value} (h:w.ownsRow base e size v n xs) (hs:∀ k,base≤k→k < w.heap.size→w'.heap[k]?=w.heap[k]?):w'.ownsRow base e size v n xs:=by
 refine ⟨h.1,?_⟩
 rcases h.2 with h1 | ⟨g,cap,cur,h1,h2,h3,h4⟩
 ·exact .inl h1
 ·exact .inr ⟨g,cap,cur,h1,h2,by rw [hs g h2 (row_lt h3)]; exact h3,h4⟩
theorem VCsCells.fp {B:Nat} {w w':World} (hs:∀ k,B≤k→k < w.heap.size→w'.heap[k]?=w.heap[k]?):∀ (cs:List Sv.Cond) (xs:List Value),VCsCells B w cs xs→VCsCells B w' cs xs
 | [],_,h=>h
 | _ :: cs,_,⟨u,ys,h1,h2,h3⟩=>⟨u,ys,h1,own_fp h2 hs,VCsCells.fp hs cs ys h3⟩
theorem VRsCells.fp {B:Nat} {w w':World} (hs:∀ k,B≤k→k < w.heap.size→w'.heap[k]?=w.heap[k]?):∀ (rs:List Sv.Rule) (xs:List Value),VRsCells B w rs xs→VRsCells B w' rs xs
 | [],_,h=>h
 | _ :: rs,_,⟨u,ys,h1,h2,h3⟩=>⟨u,ys,h1,by obtain ⟨zs,g1,g2⟩:=h2; exact ⟨zs,own_fp g1 hs,VCsCells.fp hs _ zs g2⟩,VRsCells.fp hs rs ys h3⟩
theorem VRsAt.fp {B:Nat} {v:Value} {rs:List Sv.Rule} {w w':World} (h:VRsAt B v rs w) (hs:∀ k,B≤k→k < w.heap.size→w'.heap[k]?=w.heap[k]?):VRsAt B v rs w':=by
 obtain ⟨xs,h1,h2⟩:=h
 exact ⟨xs,own_fp h1 hs,VRsCells.fp hs rs xs h2⟩
def RulesT (T:Nat→Nat) (rv:Value) (rs:List Sv.Rule) (w:World):Prop:=
 ∃ w1 B,VRsAt B rv rs w1∧w1.heap.size≤w.heap.size∧∀ k,B≤k→k < w1.heap.size→w.heap[k]?=w1.heap[k]?∧T k=0
theorem RulesT.at {T:Nat→Nat} {rv:Value} {rs:List Sv.Rule} {w:World} (h:RulesT T rv rs w):VRsAt 0 rv rs w:=by
 obtain ⟨w1,B,h1,_,h2⟩:=h
 exact (h1.fp (fun k a b=>(h2 k a b).1)).weak (Nat.zero_le _)
theorem RulesT.keep {T T':Nat→Nat} {rv:Value} {rs:List Sv.Rule} {w w':World} {S:Nat→Prop} (h:RulesT T rv rs w) (hg:GrS S w w') (hs:∀ k,T k=0→¬ S k) (ho:∀ k,k < w.heap.size→T k=0→T' k=0):RulesT T' rv rs w':=by
 obtain ⟨w1,B,h1,h3,h2⟩:=h
 refine ⟨w1,B,h1,Nat.le_trans h3 hg.size,fun k a b=>?_⟩
 obtain ⟨e1,e2⟩:=h2 k a b
 exact ⟨by rw [hg.block k (by omega) (hs k e2)]; exact e1,ho k (by omega) e2⟩
def YT (T:Nat→Nat) (t y:Nat) (s:Sv.St) (w:World):Prop:=
 ∃ rv lv fv L fd,w.heap[y]?=some (.cells #[rv,lv,.int .i64 s.cnt,fv] 172 (0,0))∧T y=t∧RulesT T rv s.rs w∧
  TRow T t 176 3 thenc lv L w∧(∀ th∈L,TRow T t 3 1 ienc th.v th.vals w∧th.vals.length≤4)∧
  TRow T t 52 2 mtenc fv fd w∧(∀ m∈fd,TRow T t 3 1 ienc m.v m.ids w)∧L.map VTh.of=s.L∧fd.map VMt.of=s.fired
theorem YT.keep {T T':Nat→Nat} {t y:Nat} {s:Sv.St} {w w':World} {S:Nat→Prop} (h:YT T t y s w) (hg:GrS S w w') (hs:∀ k,T k=t∨T k=0→¬ S k) (ho:∀ k,k < w.heap.size→T k=t∨T k=0→T' k=T k):YT T' t y s w':=by
 obtain ⟨rv,lv,fv,L,fd,h1,h2,h3,h4,h5,h6,h7,h8,h9⟩:=h
 have hs1:∀ k,T k=t→¬ S k:=fun k hk=>hs k (.inl hk)
 have ho1:∀ k,k < w.heap.size→T k=t→T' k=t:=fun k hk hk2=>by rw [ho k hk (.inl hk2)]; exact hk2
 exact ⟨rv,lv,fv,L,fd,hg.blk h1 (hs1 y h2),ho1 y (row_lt h1) h2,h3.keep hg (fun k hk=>hs k (.inr hk)) (fun k hk hk2=>by rw [ho k hk (.inr hk2)]; exact hk2),
  h4.keep2 hg hs1 ho1,fun th hth=>⟨(h5 th hth).1.keep2 hg hs1 ho1,(h5 th hth).2⟩,h6.keep2 hg hs1 ho1,fun m hm=>(h7 m hm).keep2 hg hs1 ho1,h8,h9⟩
theorem YT.yat {T:Nat→Nat} {t y:Nat} {s:Sv.St} {w:World} (h:YT T t y s w) :
  ∃ rv lv fv L fd,YAt y rv lv (.int .i64 s.cnt) fv s.rs L w∧MsAt 0 fv fd w∧L.map VTh.of=s.L∧fd.map VMt.of=s.fired:=by
 obtain ⟨rv,lv,fv,L,fd,h1,h2,h3,h4,h5,h6,h7,h8,h9⟩:=h
 exact ⟨rv,lv,fv,L,fd,⟨h1,h3.at,h4.1,fun th hth=>⟨(h5 th hth).1.1,(h5 th hth).2⟩⟩,⟨h6.1,fun m hm=>(h7 m hm).1⟩,h8,h9⟩
theorem TRow.nil {α:Type} (T:Nat→Nat) (t:Nat) (e:TypeId) (size:Nat) {enc:α→List Value} (h:∀ a,(enc a).length=size) (w:World):TRow T t e size enc (.slice none 0 0) ([]:List α) w:=⟨RowAt.nil _ _ h,by simp [Value.ownBlock]⟩
theorem yNew_w (T:Nat→Nat) (t:Nat) (s:ByteArray) (w:World) (hm:s.size≤maxLen) :
  Calls Tryz.prog 52 #[.string s] w fun e w'=>w.grownBy w' none∧match Sv.netOf s.data.toList with
   | .inl k=>e=.returned (.tuple #[.pointer none,.int .i64 k])
   | .inr rs=>∃ T' y,e=.returned (.tuple #[.pointer (some ⟨y,0,none⟩),.int .i64 0])∧YT T' t y ⟨rs,[],0,[]⟩ w'∧∀ k,k < w.heap.size→T' k=T k:=by
 refine (vNew_w s w hm).mono ?_
 rintro e w' ⟨hg,hp⟩
 refine ⟨hg,?_⟩
 cases hr:Sv.netOf s.data.toList with
 | inl k=>rw [hr] at hp; exact hp
 | inr rs=>
  rw [hr] at hp
  obtain ⟨y,rv,rfl,hy,⟨w1,hv,h1,hg1⟩,hY⟩:=hp
  obtain ⟨T',hT'⟩:∃ T':Nat→Nat,∀ k,T' k=if k < w.heap.size then T k else if k=y then t else 0:=⟨_,fun _=>rfl⟩
  refine ⟨T',y,rfl,⟨rv,.slice none 0 0,.slice none 0 0,[],[],hY.blk,by rw [hT',if_neg (by omega),if_pos rfl],?_,TRow.nil _ _ _ _ thenc_len _,by simp,TRow.nil _ _ _ _ mtenc_len _,by simp,rfl,rfl⟩,fun k hk=>by rw [hT',if_pos hk]⟩
  exact ⟨w1,w.heap.size,hv,hg1.size,fun k a b=>⟨hg1.block k b (by simp),by rw [hT',if_neg (by omega),if_neg (by omega)]⟩⟩
theorem yAdd_w (T:Nat→Nat) (t y:Nat) (s:Sv.St) (f:Sv.Fact) (fa:Option Addr) (fc:Nat) (w:World) (ht:t≠0) (hy:YT T t y s w) (hok:Sv.StOk s) (hc1:s.cnt≤4611686018427387904) (hf:InAt (.slice fa f.vals.length fc) f.vals w) (hfy:f.vals≠[]→∀ g,(Value.slice fa f.vals.length fc).ownBlock=some g→T g≠t) :
  Calls Tryz.prog 80 #[.pointer (some ⟨y,0,none⟩),.agg #[.int .i64 f.kind,.slice fa f.vals.length fc]] w fun e w'=>e=.returned (.tuple #[.int .i64 (s.add f).1.1,.int .i64 (s.add f).1.2])∧GrS (fun k=>T k=t) w w'∧∃ T',YT T' t y (s.add f).2 w'∧∀ k,k < w.heap.size→T' k=T k:=by
 have hy0:=hy
 obtain ⟨rv,lv,fv,L,fd,h1,h2,h3,h4,h5,h6,h7,h8,h9⟩:=hy
 have hYA:YAt y rv lv (.int .i64 s.cnt) fv s.rs L w:=⟨h1,h3.at,h4.1,fun th hth=>⟨(h5 th hth).1.1,(h5 th hth).2⟩⟩
 have hMA:MsAt 0 fv fd w:=⟨h6.1,fun m hm=>(h7 m hm).1⟩
 have hLl:L.length=s.L.length:=by rw [←h8,List.length_map]
 have hfl:fd.length=s.fired.length:=by rw [←h9,List.length_map]
 by_cases hn:Sv.factOk f=false∨16≤L.length
 ·refine (vAdd_no y rv lv _ fv s.rs L f fa fc w hYA (by have:=hok.facts; omega) hf hn).mono ?_
  rintro e w' ⟨rfl,hg⟩
  have hadd:s.add f=((0,if Sv.factOk f=false then 3 else 4),s):=by
   unfold Sv.St.add
   by_cases hF:Sv.factOk f=false
   ·rw [if_pos hF,if_pos hF]
   ·rw [if_neg hF,if_neg hF,if_pos (by rcases hn with h | h; exact absurd h hF; omega)]
  rw [hadd]
  refine ⟨?_,GrS.of hg (by simp),T,hy0.keep (GrS.of (S:=fun _=>False) hg (by simp)) (by simp) (fun _ _ _=>rfl),fun _ _=>rfl⟩
  by_cases hF:Sv.factOk f=false
  ·simp [hF]
  ·simp [hF]
 ·have hF:¬ Sv.factOk f=false:=fun h=>hn (.inl h)
  have hF2:Sv.factOk f=true:=by simpa using hF
  have hL16:L.length < 16:=by
   have:¬ 16≤L.length:=fun h=>hn (.inr h)
   omega
  refine (vAdd_yes y rv lv fv s.cnt hok.c0 hc1 s.rs L fd f fa fc w hYA hok.rules hL16 hMA (by have:=hok.fired; omega) hf (fun hne e=>hfy hne y e h2) hF2).mono ?_
  rintro e w' ⟨rfl,hG,lv',fv',th,fd',t1,t2,t3,hY,hM,hmap,hsub,hlv,htv,hfv⟩
  have hof:th.of=(s.cnt+1,f):=by unfold VTh.of; rw [t1,t2,t3]
  have hadd:s.add f=((s.cnt+1,0),⟨s.rs,s.L ++ [(s.cnt+1,f)],s.cnt+1,Sv.keepF (Sv.matches s.rs (s.L ++ [(s.cnt+1,f)])) s.fired⟩):=by
   unfold Sv.St.add
   rw [if_neg hF,if_neg (by omega)]
  rw [hadd]
  have hSt:∀ k,(k=y∨lv.ownBlock=some k)→T k=t:=by
   rintro k (rfl | h)
   ·exact h2
   ·exact h4.2 k h
  have hG':GrS (fun k=>T k=t) w w':=hG.mono hSt
  obtain ⟨T',hT'⟩:∃ T':Nat→Nat,∀ k,T' k=if k < w.heap.size then T k else t:=⟨_,fun _=>rfl⟩
  have hTo:∀ k,k < w.heap.size→T' k=T k:=fun k hk=>by rw [hT',if_pos hk]
  have hTn:∀ k,w.heap.size≤k→T' k=t:=fun k hk=>by rw [hT',if_neg (by omega)]
  have hylt:=row_lt h1
  have hmapL:(L ++ [th]).map VTh.of=s.L ++ [(s.cnt+1,f)]:=by rw [List.map_append,h8,List.map_singleton,hof]
  refine ⟨rfl,hG',T',⟨rv,lv',fv',L ++ [th],fd',hY.blk,by rw [hTo y hylt]; exact h2,h3.keep hG' (fun k hk=>by omega) (fun k hk hk2=>by rw [hTo k hk]; exact hk2),⟨hY.facts,fun g hg=>?_⟩,fun x hx=>⟨⟨(hY.vals x hx).1,fun g hg=>?_⟩,(hY.vals x hx).2⟩,⟨hM.1,fun g hg=>hTn g (hfv g hg)⟩,fun m hm=>⟨hM.2 m hm,fun g hg=>?_⟩,hmapL,?_⟩,hTo⟩
  ·rcases hlv g hg with h | h
   ·rw [hTo g (h4.1.own g h).2]; exact h4.2 g h
   ·exact hTn g h
  ·rcases List.mem_append.1 hx with h | h
   ·rw [hTo g ((h5 x h).1.1.own g hg).2]; exact (h5 x h).1.2 g hg
   ·simp only [List.mem_singleton] at h
    subst h
    exact hTn g (htv g hg)
  ·have hmm:=hsub m hm
   rw [hTo g ((h7 m hmm).1.own g hg).2]
   exact (h7 m hmm).2 g hg
  ·rw [hmap,hmapL,h9]
end Go.Proofs.YtolhbeekfjnfmaaGreatDoor
namespace Go.Proofs.YtolhbeekfjnfmaaGreatDoor
open Go.RowKit
structure XSpec (X:(Nat→Nat)→Nat→Nat→Sv.St→World→Prop):Prop where
 keep:∀ {T T':Nat→Nat} {t x:Nat} {s:Sv.St} {w w':World} {S:Nat→Prop},X T t x s w→GrS S w w'→(∀ k,T k=t∨T k=0→¬ S k)→(∀ k,k < w.heap.size→T k=t∨T k=0→T' k=T k)→X T' t x s w'
 add:∀ (T:Nat→Nat) (t x:Nat) (s:Sv.St) (f:Sv.Fact) (fa:Option Addr) (fc:Nat) (w:World),t≠0→X T t x s w→Sv.StOk s→s.cnt≤4611686018427387904→IsAt 0 (.slice fa f.vals.length fc) f.vals w→(∀ g,(Value.slice fa f.vals.length fc).ownBlock=some g→T g≠t)→
  Calls Tryz.prog 18 #[.pointer (some ⟨x,0,none⟩),.agg #[.int .i64 f.kind,.slice fa f.vals.length fc]] w fun e w'=>e=.returned (.tuple #[.int .i64 (s.add f).1.1,.int .i64 (s.add f).1.2])∧GrS (fun k=>T k=t) w w'∧∃ T',X T' t x (s.add f).2 w'∧∀ k,k < w.heap.size→T' k=T k
 facts:∀ (T:Nat→Nat) (t x:Nat) (s:Sv.St) (w:World),t≠0→X T t x s w→Sv.StOk s→
  Calls Tryz.prog 24 #[.pointer (some ⟨x,0,none⟩)] w fun e w'=>∃ T' a l xs,e=.returned (.tuple #[a,l])∧w.grownBy w' none∧Hand T' 37 l xs w'∧TRow T' (13+3 * (xs.length+1)) 3 1 ienc a (s.L.map Prod.fst) w'∧xs.map (fun x=>(⟨x.kind,x.vals⟩:Sv.Fact))=s.L.map Prod.snd∧∀ k,k < w.heap.size→T' k=T k
 mats:∀ (T:Nat→Nat) (t x:Nat) (s:Sv.St) (w:World),t≠0→X T t x s w→Sv.StOk s→
  Calls Tryz.prog 21 #[.pointer (some ⟨x,0,none⟩)] w fun e w'=>∃ T' l xs,e=.returned l∧w.grownBy w' none∧Hand T' 52 l xs w'∧xs.map (fun x=>(x.kind,x.vals))=Sv.matches s.rs s.L∧∀ k,k < w.heap.size→T' k=T k
theorem Hand.keep {T T':Nat→Nat} {e:TypeId} {v:Value} {xs:List VFt} {w w':World} {S:Nat→Prop} (h:Hand T e v xs w) (hg:GrS S w w') (hs:∀ k,(T k=13∨∃ i,i < xs.length∧T k=13+3 * (i+1))→¬ S k) (ho:∀ k,k < w.heap.size→(T k=13∨∃ i,i < xs.length∧T k=13+3 * (i+1))→T' k=T k):Hand T' e v xs w':=by
 refine ⟨h.row.keep2 hg (fun k hk=>hs k (.inl hk)) (fun k hk hk2=>by rw [ho k hk (.inl hk2)]; exact hk2),fun i x hx=>?_⟩
 have hi:=(List.getElem?_eq_some_iff.1 hx).1
 obtain ⟨h1,h2⟩:=h.els i x hx
 exact ⟨h1.keep2 hg (fun k hk=>hs k (.inr ⟨i,hi,hk⟩)) (fun k hk hk2=>by rw [ho k hk (.inr ⟨i,hi,hk2⟩)]; exact hk2),h2⟩
theorem NumsAt.keep {T T':Nat→Nat} {uv k0:Value} {us:List (Value×Int)} {w w':World} {S:Nat→Prop} (h:NumsAt T uv k0 us w) (hg:GrS S w w') (hs:∀ k,(T k=3∨T k=6∨T k=10)→¬ S k) (ho:∀ k,k < w.heap.size→(T k=3∨T k=6∨T k=10)→T' k=T k):NumsAt T' uv k0 us w':=by
 obtain ⟨a1,a2,a3⟩:=h
 refine ⟨a1.keep2 hg (fun k hk=>hs k (.inl hk)) (fun k hk hk2=>by rw [ho k hk (.inl hk2)]; exact hk2),a2.keep2 hg (fun k hk=>hs k (.inr (.inl hk))) (fun k hk hk2=>by rw [ho k hk (.inr (.inl hk2))]; exact hk2),fun p hp=>?_⟩
 obtain ⟨n,hn⟩:=a3 p hp
 exact ⟨n,hn.keep2 hg (fun k hk=>hs k (.inr (.inr hk))) (fun k hk hk2=>by rw [ho k hk (.inr (.inr hk2))]; exact hk2)⟩
theorem ElsAt.keep {A B:Nat} {se e:TypeId} {T T':Nat→Nat} {uv k0:Value} {us:List (Value×Int)} {w w':World} {S:Nat→Prop} (h:ElsAt A B se e T uv k0 us w) (hg:GrS S w w') (hs:∀ k,(T k=A∨T k=B∨T k=10)→¬ S k) (ho:∀ k,k < w.heap.size→(T k=A∨T k=B∨T k=10)→T' k=T k):ElsAt A B se e T' uv k0 us w':=by
 obtain ⟨a1,a2,a3⟩:=h
 refine ⟨a1.keep2 hg (fun k hk=>hs k (.inl hk)) (fun k hk hk2=>by rw [ho k hk (.inl hk2)]; exact hk2),a2.keep2 hg (fun k hk=>hs k (.inr (.inl hk))) (fun k hk hk2=>by rw [ho k hk (.inr (.inl hk2))]; exact hk2),fun p hp=>?_⟩
 obtain ⟨n,hn⟩:=a3 p hp
 exact ⟨n,hn.keep2 hg (fun k hk=>hs k (.inr (.inr hk))) (fun k hk hk2=>by rw [ho k hk (.inr (.inr hk2))]; exact hk2)⟩
theorem LentAt.keep {T T':Nat→Nat} {lv:Value} {ls:List Value} {w w':World} {S:Nat→Prop} (h:LentAt T lv ls w) (hg:GrS S w w') (hs:∀ k,(T k=9∨T k=10)→¬ S k) (ho:∀ k,k < w.heap.size→(T k=9∨T k=10)→T' k=T k):LentAt T' lv ls w':=by
 obtain ⟨a1,a3⟩:=h
 refine ⟨a1.keep2 hg (fun k hk=>hs k (.inl hk)) (fun k hk hk2=>by rw [ho k hk (.inl hk2)]; exact hk2),fun p hp=>?_⟩
 obtain ⟨n,hn⟩:=a3 p hp
 exact ⟨n,hn.keep2 hg (fun k hk=>hs k (.inr hk)) (fun k hk hk2=>by rw [ho k hk (.inr hk2)]; exact hk2)⟩
structure Lists (T:Nat→Nat) (W:Nat) (nv uv fv mv k0 k1 k2 lv:Value) (us fs ms:List (Value×Int)) (ls:List Value) (w:World):Prop where
 blk:WBlk W #[nv,uv,fv,mv,k0,k1,k2,lv] w
 own:T W=1
 nums:NumsAt T uv k0 us w
 lent:LentAt T lv ls w
 facts:ElsAt 4 7 47 37 T fv k1 fs w
 mats:ElsAt 5 8 43 52 T mv k2 ms w
theorem Lists.gr {T T':Nat→Nat} {W:Nat} {nv uv fv mv k0 k1 k2 lv:Value} {us fs ms:List (Value×Int)} {ls:List Value} {w w':World} (h:Lists T W nv uv fv mv k0 k1 k2 lv us fs ms ls w) (hg:w.grownBy w' none) (ho:∀ k,k < w.heap.size→T' k=T k):Lists T' W nv uv fv mv k0 k1 k2 lv us fs ms ls w':=by
 have hG:GrS (fun _=>False) w w':=GrS.of hg (by simp)
 exact ⟨h.blk.gr hg (by simp),by rw [ho W (row_lt h.blk)]; exact h.own,h.nums.keep hG (by simp) (fun k hk _=>ho k hk),h.lent.keep hG (by simp) (fun k hk _=>ho k hk),h.facts.keep hG (by simp) (fun k hk _=>ho k hk),h.mats.keep hG (by simp) (fun k hk _=>ho k hk)⟩
end Go.Proofs.YtolhbeekfjnfmaaGreatDoor
namespace Go.Proofs.YtolhbeekfjnfmaaGreatDoor
open Go.RowKit
theorem InH_ne {t:Nat} (h:¬ InH t) (j:Nat):t≠13+3 * j:=fun e=>h ⟨by omega,by omega⟩
def TellsPost (T:Nat→Nat) (W:Nat) (nv mv k2 lv:Value) (us fs ms:List (Value×Int)) (ls:List Value) (w:World) (e:Ending) (w':World):Prop:=
 e=.returned (.bool true)∧∃ T' uv' fv' k0' k1' us' fs',Lists T' W nv uv' fv' mv k0' k1' k2 lv us' fs' ms ls w'∧us'.length≤us.length+68∧fs'.length=fs.length+4∧
  GrS (fun k=>T k=1∨T k=3∨T k=6∨T k=4∨T k=7∨InH (T k)) w w'∧∀ k,k < w.heap.size→¬ InH (T k)→T' k=T k
set_option maxRecDepth 100000 in
set_option maxHeartbeats 4000000 in
theorem tells_w (X:(Nat→Nat)→Nat→Nat→Sv.St→World→Prop) (hX:XSpec X) (T:Nat→Nat) (W:Nat) (nv uv fv mv k0 k1 k2 lv:Value) (us fs ms:List (Value×Int)) (ls:List Value) (w:World)
  (hLs:Lists T W nv uv fv mv k0 k1 k2 lv us fs ms ls w) (tx ty x y:Nat) (s:Sv.St) (htx:tx≠0) (hx:X T tx x s w) (hy:YT T ty y s w) (hok:Sv.StOk s) (hus:us.length+100≤4398046511104) (hfs:fs.length≤4398046511104) :
  Calls Tryz.prog 55 #[.pointer (some ⟨W,0,none⟩),.agg #[.pointer (some ⟨x,0,none⟩),.pointer (some ⟨y,0,none⟩)]] w fun e w'=>TellsPost T W nv mv k2 lv us fs ms ls w e w':=by
 have hgA:=World.grownBy_alloc w (.cells #[.pointer (some ⟨x,0,none⟩),.pointer (some ⟨y,0,none⟩)] 106) none
 have hP:C2 106 w.heap.size (.pointer (some ⟨x,0,none⟩)) (.pointer (some ⟨y,0,none⟩)) (w.alloc (.cells #[.pointer (some ⟨x,0,none⟩),.pointer (some ⟨y,0,none⟩)] 106)):=heap_alloc_new _ _
 have hXF:=hX.facts T tx x s _ htx (hX.keep hx (GrS.of (S:=fun _=>False) hgA (by simp)) (by simp) (fun _ _ _=>rfl)) hok
 have HLS:=hide hLs
 have HY:=hide hy
 have HOK:=hide hok
 have HUS:=hide hus
 have HFS:=hide hfs
 clear hLs hx hy hok hus hfs
 go_enter Tryz.func55,Tryz.ntmps55
 go_wp2_with fail
 refine hXF.mono ?_
 rintro e w1 ⟨T1,a,l,xs,rfl,hg1,hH1,ha1,hmap,hT1⟩
 obtain ⟨aA,cA,rfl⟩:=ha1.1.slice
 obtain ⟨aL,cL,rfl⟩:=hH1.row.1.slice
 have hg01:=gr_trans hgA hg1
 have hP1:=hP.kept hg1 (by simp)
 obtain ⟨p0,p1⟩:=hP1.c
 have hT1':∀ k,k < w.heap.size→T1 k=T k:=fun k hk=>hT1 k (by simp; omega)
 have HH1:=hide hH1
 have HA1:=hide ha1
 have HMAP:=hide hmap
 have HT1:=hide hT1'
 clear hXF hH1 ha1 hmap hT1 hT1' hgA hP hg1
 obtain ⟨rv,lv',fv',L,fd,hYA,_,hLmap,_⟩:=((unhide HY).keep (T':=T) (GrS.of (S:=fun _=>False) hg01 (by simp)) (by simp) (fun _ _ _=>rfl)).yat
 have hLl:L.length=s.L.length:=by rw [←hLmap,List.length_map]
 have hxl:xs.length=s.L.length:=by have:=congrArg List.length (unhide HMAP); simpa using this
 have hL16:s.L.length≤16:=(unhide HOK).facts
 have hVF:=vFacts_w y rv lv' _ fv' s.rs L w1 hYA (by omega)
 have hvals:=hYA.vals
 have HVALS:=hide hvals
 have HLM:=hide hLmap
 clear hYA hvals hLmap
 go_wp2_with fail
 refine hVF.mono ?_
 rintro e w2 ⟨b,kk,rfl,hb,hkk,hg2⟩
 obtain ⟨aB,cB,rfl⟩:=hb.slice
 obtain ⟨aQ,cQ,rfl⟩:=hkk.slice
 have hids:s.L.map Prod.fst=L.map VTh.id:=by rw [←unhide HLM,List.map_map]; rfl
 have hsN:=sameN_w (s.L.map Prod.fst) (L.map VTh.id) _ _ w2 ((unhide HA1).1.gr hg2) (hb.weak (Nat.zero_le _))
 have hdec:decide (s.L.map Prod.fst=L.map VTh.id)=true:=by simpa using hids
 rw [hdec] at hsN
 have hg02:=gr_trans hg01 hg2
 have HKK:=hide hkk
 clear hVF hdec hids hb hkk hP1 p0 p1
 rw [List.length_map,List.length_map,hLl] at hsN
 have e1:(L.map VTh.ft).length=s.L.length:=by rw [List.length_map]; exact hLl
 have e2:(L.map VTh.id).length=s.L.length:=by rw [List.length_map]; exact hLl
 rw [e1,e2]
 clear e1 e2
 have hN:s.L.length≤16:=hL16
 go_wp2_with fail
 refine hsN.mono ?_
 rintro e w3 ⟨rfl,hg3⟩
 have hg03:=gr_trans hg02 hg3
 have hg13:=gr_trans hg2 hg3
 have hd0:((s.L.length:Int) == (s.L.length:Int))=true:=by simp
 have HXL:=hide hxl
 have HLL:=hide hLl
 clear hsN hg2 hxl hLl
 go_wp2
 go_loopw [9,10] (fun o z w'=>∃ i:Nat,i≤s.L.length∧o=.bool true∧z=.int .i64 i∧w3.grownBy w' none) (fun _ z _=>s.L.length - (intOf z).toNat)
 case atStart=>exact ⟨0,Nat.zero_le _,rfl,rfl,World.grownBy.refl _ _⟩
 case round=>
  obtain ⟨i,hi,rfl,rfl,hg⟩:=hrel
  by_cases hlt:i < s.L.length
  ·have hdi:decide (i < s.L.length)=true:=by simpa using hlt
   have hxl:=unhide HXL
   have hLl:=unhide HLL
   obtain ⟨q,hq⟩:∃ q,xs[i]?=some q:=⟨xs[i]'(by omega),List.getElem?_eq_getElem (by omega)⟩
   obtain ⟨th,hth⟩:∃ th,L[i]?=some th:=⟨L[i]'(by omega),List.getElem?_eq_getElem (by omega)⟩
   have hqt:(⟨q.kind,q.vals⟩:Sv.Fact)=⟨th.kind,th.vals⟩:=by
    have h1:=congrArg (fun z=>z[i]?) (unhide HMAP)
    simp only [List.getElem?_map,hq,Option.map_some,←unhide HLM,hth] at h1
    simpa [VTh.of] using h1
   have hqk:q.kind=th.kind:=congrArg Sv.Fact.kind hqt
   have hqv:q.vals=th.vals:=congrArg Sv.Fact.vals hqt
   have hgr1:=gr_trans hg13 hg
   obtain ⟨g,cp,hv,hcs⟩:=((unhide HH1).row.1.gr hgr1).cells hq
   simp only [Value.slice.injEq,true_and] at hv
   obtain ⟨rfl,rfl⟩:=hv
   have htm:(L.map VTh.ft)[i]?=some th.ft:=by rw [List.getElem?_map,hth]; rfl
   obtain ⟨g2,cp2,hv2,hcs2⟩:=((unhide HKK).gr (gr_trans hg3 hg)).cells htm
   simp only [Value.slice.injEq,true_and] at hv2
   obtain ⟨rfl,rfl⟩:=hv2
   have q0:wr.cell? ⟨g,i * 2,none⟩=some (.int .i64 q.kind):=hcs 0 (by omega)
   have q1:wr.cell? ⟨g,i * 2+1,none⟩=some q.v:=hcs 1 (by omega)
   have t0:wr.cell? ⟨g2,i * 2,none⟩=some (.int .i64 th.kind):=hcs2 0 (by omega)
   have t1:wr.cell? ⟨g2,i * 2+1,none⟩=some th.v:=hcs2 1 (by omega)
   have hqr:=((unhide HH1).els i q hq).1.1
   have htr:=(unhide HVALS th (List.mem_of_getElem? hth)).1
   have hS:=fun (Z:World) (hZ:wr.grownBy Z none)=>sameN_w q.vals th.vals q.v th.v Z (hqr.gr (gr_trans hgr1 hZ)) (htr.gr (gr_trans hgr1 hZ))
   have hdv:decide (q.vals=th.vals)=true:=by simpa using hqv
   rw [hdv] at hS
   obtain ⟨qa,qc,hqv2⟩:=hqr.slice
   obtain ⟨ta,tc,htv2⟩:=htr.slice
   rw [hqv2] at q1
   rw [htv2] at t1
   rw [hqv2,htv2] at hS
   rw [hqk] at q0
   have hdk:(th.kind == th.kind)=true:=by simp
   clear hcs hcs2 hq hth hqt hqk hqv htm hqr htr hdv hqv2 htv2 hxl hLl
   go_wp2_with fail
   go_cut [11] (fun z wx=>z=.bool true∧wr.grownBy wx none)
   case first=>
    go_region_with (go_at_call 82; refine (hS _ (by repeat (first | exact World.grownBy.refl _ _ | apply gr_drew))).mono ?_; rintro e w4 ⟨rfl,hg4⟩)
    all_goals
     go_wp2_with fail
     go_meet
     exact ⟨rfl,gr_trans (gr_drew (World.grownBy.refl _ _)) hg4⟩
   case rest=>
    obtain ⟨rfl,hg4⟩:=hcut
    have hgc:=gr_trans hg hg4
    have q02:=hg4.cell q0 (by simp)
    have t02:=hg4.cell t0 (by simp)
    clear hS hg4 q0 q1 t0 t1
    go_wp2
    go_quiet (fail)
    go_wp2
    go_roundw
    case rel=>exact ⟨i+1,by omega,rfl,by go_num,gr_trans hgc (gr_drewN _ _ _)⟩
    case measure=>simp [intOf]; omega
  ·have hdi:decide (i < s.L.length)=false:=by simpa using hlt
   have hg0:=gr_trans hg03 hg
   have hl0:=(unhide HLS).gr (T':=T) hg0 (fun _ _=>rfl)
   have hLk:=looks_full T W nv uv fv mv k0 k1 k2 lv us fs ms ls wr hl0.blk hl0.nums hl0.lent hl0.facts hl0.mats
   clear hlt hi
   go_wp2_with fail
   refine hLk.mono ?_
   rintro e w5 ⟨rfl,hg5⟩
   have hg05:=gr_trans hg0 hg5
   have hl5:=(unhide HLS).gr (T':=T1) hg05 (unhide HT1)
   have hg15:=gr_trans (gr_trans hg13 hg) hg5
   have hGn:GrS (fun _=>False) w1 w5:=GrS.of hg15 (by simp)
   have ha5:=(unhide HA1).keep2 (T':=T1) hGn (by simp) (fun _ _ h=>h)
   have hH5:=(unhide HH1).keep (T':=T1) hGn (by simp) (fun _ _ _=>rfl)
   have hXl:=unhide HXL
   have hO:=ownN_w T1 (13+3 * (xs.length+1)) W nv uv fv mv k0 k1 k2 lv us _ _ w5 hl5.blk hl5.own hl5.nums ha5 (by omega) (by have:=unhide HUS; omega) (by rw [List.length_map]; omega)
   rw [List.length_map] at hO
   have HL5:=hide hl5
   have HH5:=hide hH5
   clear hXl hLk hl0 hl5 hH5 ha5 hGn
   go_wp2_with fail
   refine hO.mono ?_
   rintro e w6 ⟨rfl,T3,uv3,k03,us3,hW3,hN3,hu3,hG3,hT3⟩
   have hl5:=unhide HL5
   have hWlt:W < w5.heap.size:=row_lt hl5.blk
   have hTW3:T3 W=1:=by rw [hT3 W hWlt (by rw [hl5.own]; omega)]; exact hl5.own
   have hE6:ElsAt 4 7 47 37 T3 fv k1 fs w6:=hl5.facts.keep hG3 (fun k hk=>by omega) (fun k hk hk2=>hT3 k hk (by omega))
   have hH6:Hand T3 37 (.slice aL xs.length cL) xs w6:=(unhide HH5).keep hG3 (fun k hk=>by rcases hk with h | ⟨j,hj,h⟩<;>omega) (fun k hk hk2=>hT3 k hk (by rcases hk2 with h | ⟨j,hj,h⟩<;>omega))
   have hXl:=unhide HXL
   have hOF:=ownF_w T3 W nv uv3 fv mv k03 k1 k2 lv us3 fs _ xs w6 hW3 hTW3 hN3 hE6 hH6 (by have:=unhide HUS; omega) (unhide HFS) (by omega)
   rw [hXl] at hOF
   have HK:=hide (show us3.length=us.length+4∧GrS (fun k=>T1 k=1∨T1 k=3∨T1 k=6∨T1 k=13+3 * (xs.length+1)) w5 w6∧(∀ k,k < w5.heap.size→T1 k≠13+3 * (xs.length+1)→T3 k=T1 k)∧T3 W=1 from ⟨hu3,hG3,hT3,hTW3⟩)
   clear hO hXl hE6 hH6 hW3 hN3 hu3 hG3 hT3 hTW3 hl5
   go_wp2_with fail
   refine hOF.mono ?_
   rintro e w7 ⟨rfl,T4,uv4,k04,us4,fv4,k14,fs4,hW4,hN4,hE4,hu4,hf4,hG4,hT4⟩
   obtain ⟨hu3,hG3,hT3,hTW3⟩:=unhide HK
   have hl5:=unhide HL5
   have hsz56:=hG3.size
   have hnI:∀ t:Nat,t < 13→¬ InH t:=fun t h hI=>by have:=hI.1; omega
   have hTW4:T4 W=1:=by
    rw [hT4 W (by have:=row_lt hl5.blk; omega) (by rw [hTW3]; exact hnI 1 (by omega))]
    exact hTW3
   have hlent:LentAt T4 lv ls w7:=by
    refine (hl5.lent.keep hG3 (fun k hk=>by omega) (fun k hk hk2=>hT3 k hk (by omega))).keep hG4 (fun k hk h=>?_) (fun k hk hk2=>hT4 k hk (by rcases hk2 with h | h<;>(rw [h]; exact hnI _ (by omega))))
    rcases h with h | h | h | h | h | h
    ·omega
    ·omega
    ·omega
    ·omega
    ·omega
    ·have:=h.1; omega
   have hmats:ElsAt 5 8 43 52 T4 mv k2 ms w7:=by
    refine (hl5.mats.keep hG3 (fun k hk=>by omega) (fun k hk hk2=>hT3 k hk (by omega))).keep hG4 (fun k hk h=>?_) (fun k hk hk2=>hT4 k hk (by rcases hk2 with h | h | h<;>(rw [h]; exact hnI _ (by omega))))
    rcases h with h | h | h | h | h | h
    ·omega
    ·omega
    ·omega
    ·omega
    ·omega
    ·have:=h.1; omega
   have hTk:∀ k,k < w.heap.size→¬ InH (T k)→T3 k=T k:=by
    intro k hk hI
    have h1:=unhide HT1 k hk
    rw [hT3 k (Nat.lt_of_lt_of_le hk hg05.size) (by rw [h1]; exact InH_ne hI _),h1]
   have hGF:GrS (fun k=>T k=1∨T k=3∨T k=6∨T k=4∨T k=7∨InH (T k)) w w7:=by
    have h1:GrS (fun k=>T k=1∨T k=3∨T k=6∨T k=4∨T k=7∨InH (T k)) w w5:=GrS.of hg05 (by simp)
    refine (h1.comp hG3 (fun k hk hn=>?_)).comp hG4 (fun k hk hn=>?_)
    ·have hI:¬ InH (T k):=fun h=>hn (.inr (.inr (.inr (.inr (.inr h)))))
     rw [unhide HT1 k hk]
     rintro (h | h | h | h)
     ·exact hn (.inl h)
     ·exact hn (.inr (.inl h))
     ·exact hn (.inr (.inr (.inl h)))
     ·exact InH_ne hI _ h
    ·have hI:¬ InH (T k):=fun h=>hn (.inr (.inr (.inr (.inr (.inr h)))))
     rw [hTk k hk hI]
     exact hn
   have hTF:∀ k,k < w.heap.size→¬ InH (T k)→T4 k=T k:=by
    intro k hk hI
    have h1:=hTk k hk hI
    rw [hT4 k (Nat.lt_of_lt_of_le hk (Nat.le_trans hg05.size hsz56)) (by rw [h1]; exact hI),h1]
   have HFIN:=hide (show ∃ T' uv' fv' k0' k1' us' fs',Lists T' W nv uv' fv' mv k0' k1' k2 lv us' fs' ms ls w7∧us'.length≤us.length+68∧fs'.length=fs.length+4∧
    GrS (fun k=>T k=1∨T k=3∨T k=6∨T k=4∨T k=7∨InH (T k)) w w7∧∀ k,k < w.heap.size→¬ InH (T k)→T' k=T k from
    ⟨T4,uv4,fv4,k04,k14,us4,fs4,⟨hW4,hTW4,hN4,hlent,hE4,hmats⟩,by omega,hf4,hGF,hTF⟩)
   clear hOF hW4 hN4 hE4 hu4 hf4 hG4 hT4 hu3 hG3 hT3 hTW3 hl5 hnI hTW4 hlent hmats hTk hGF hTF
   go_wp2
   go_ret
   exact ⟨rfl,unhide HFIN⟩
end Go.Proofs.YtolhbeekfjnfmaaGreatDoor
namespace Go.Proofs.YtolhbeekfjnfmaaGreatDoor
structure Ft where
 blk:Nat
 id:Int
 f:Sv.Fact
structure Site where
 letter:UInt8
 fact:Nat
 place:Nat
structure Lnk where
 place:Nat
 at':Site
abbrev Tok:=List Ft
def Site.bindT (k:Nat):Nat→List Sv.Term→List Site
 | _,[]=>[]
 | p,t :: ts=>(if t.sort=1 then [⟨t.letter,k,p⟩] else []) ++ Site.bindT k (p+1) ts
def Site.find:List Site→UInt8→Option Site
 | [],_=>none
 | s :: ss,n=>if s.letter=n then some s else Site.find ss n
def Lnk.of (ahead:List Site):Nat→List Sv.Term→List Lnk
 | _,[]=>[]
 | p,t :: ts=>(if t.sort=1 then (match Site.find ahead t.letter with | none=>[] | some s=>[⟨p,s⟩]) else []) ++ Lnk.of ahead (p+1) ts
def Sv.Term.eqb (a b:Sv.Term):Bool:=a.sort == b.sort && a.letter == b.letter && a.value == b.value
def Sv.tIdx:List Sv.Term→Sv.Term→Nat
 | [],_=>0
 | u :: us,t=>if Sv.Term.eqb u t=true then 0 else Sv.tIdx us t+1
def fitT (all:List Sv.Term) (vs:List Int):Nat→List Sv.Term→Bool
 | _,[]=>true
 | p,t :: ts=>(if t.sort=2 then vs.getD p 0 == t.value else if t.sort=1 then vs.getD p 0 == vs.getD (Sv.tIdx all t) 0 else true) && fitT all vs (p+1) ts
def fitC (c:Sv.Cond) (f:Sv.Fact):Bool:=f.kind == (c.kind:Int) && f.vals.length == c.terms.length && fitT c.terms f.vals 0 c.terms
def Tok.val (t:Tok) (s:Site):Int:=((t[s.fact]?.map (fun g=>g.f.vals)).getD []).getD s.place 0
def fitL (ls:List Lnk) (t:Tok) (f:Sv.Fact):Bool:=ls.all fun l=>f.vals.getD l.place 0 == t.val l.at'
structure Nd where
 c:Sv.Cond
 links:List Lnk
 K:List Ft
 toks:List Tok
structure En where
 toks:List Tok
 wait:List Tok
def Nd.ext (n:Nd) (t:Tok):List Tok:=
 if n.c.neg=true then (if n.K.any (fun g=>fitL n.links t g.f)=true then [] else [t])
 else (n.K.filter (fun g=>fitL n.links t g.f)).map (fun g=>t ++ [g])
def arrives (put:List Tok→Tok→List Tok):List Nd→En→List Tok→List Nd×En
 | [],e,ts=>([],⟨e.toks ++ ts,ts.foldl put e.wait⟩)
 | n :: ns,e,ts=>
  let r:=arrives put ns e (ts.flatMap n.ext)
  ({ n with toks:=n.toks ++ ts } :: r.1,r.2)
theorem arrives_nil (put:List Tok→Tok→List Tok):∀ (ns:List Nd) (e:En),arrives put ns e []=(ns,e)
 | [],e=>by simp [arrives]
 | n :: ns,e=>by simp [arrives,arrives_nil put ns e]
theorem arrives_app (put:List Tok→Tok→List Tok):∀ (ns:List Nd) (e:En) (a b:List Tok),arrives put ns e (a ++ b)=arrives put (arrives put ns e a).1 (arrives put ns e a).2 b
 | [],e,a,b=>by simp [arrives]
 | n :: ns,e,a,b=>by
  have h:∀ t,Nd.ext { n with toks:=n.toks ++ a } t=n.ext t:=fun _=>rfl
  have h2:(Nd.ext { n with toks:=n.toks ++ a })=n.ext:=funext h
  simp only [arrives,List.flatMap_append]
  rw [arrives_app put ns e]
  simp [h2]
theorem arrives_len (put:List Tok→Tok→List Tok):∀ (ns:List Nd) (e:En) (a:List Tok),(arrives put ns e a).1.length=ns.length
 | [],e,a=>rfl
 | n :: ns,e,a=>by simp [arrives,arrives_len put ns]
def Nd.drop (gone:Tok→Bool) (n:Nd):Nd:={ n with toks:=n.toks.filter (fun t=>!gone t) }
end Go.Proofs.YtolhbeekfjnfmaaGreatDoor
namespace Go.Proofs.YtolhbeekfjnfmaaGreatDoor
def Sv.fv:List Sv.Term→List Int→UInt8→Option Int
 | t :: ts,v :: vs,x=>if t.sort=1∧t.letter=x then some v else Sv.fv ts vs x
 | _,_,_=>none
theorem Sv.lookB_app (b:Sv.Bs) (x:UInt8) (v:Int) (y:UInt8):Sv.lookB (b ++ [(x,v)]) y=(Sv.lookB b y).or (if x=y then some v else none):=by
 induction b with
 | nil=>simp [Sv.lookB]
 | cons p b ih=>
  simp only [List.cons_append,Sv.lookB]
  split
  ·simp
  ·exact ih
theorem Site.find_app (a b:List Site) (x:UInt8):Site.find (a ++ b) x=(Site.find a x).or (Site.find b x):=by
 induction a with
 | nil=>simp [Site.find]
 | cons p a ih=>
  simp only [List.cons_append,Site.find]
  split
  ·simp
  ·exact ih
theorem or_lem {α:Type} {a:Option α} {u:α} (h:a=some u) (b c:Option α):a.or b=a.or c:=by subst h; simp
theorem Sv.meetT_look:∀ (ts:List Sv.Term) (vs:List Int) (b b':Sv.Bs),Sv.meetT ts vs b=some b'→∀ x,Sv.lookB b' x=(Sv.lookB b x).or (Sv.fv ts vs x)
 | [],vs,b,b',h=>by simp [Sv.meetT] at h; subst h; simp [Sv.fv]
 | t :: ts,[],b,b',h=>by simp [Sv.meetT] at h; subst h; simp [Sv.fv]
 | t :: ts,v :: vs,b,b',h=>by
  intro x
  unfold Sv.meetT at h
  unfold Sv.fv
  split at h
  ·rename_i h0
   rw [Sv.meetT_look ts vs b b' h x,if_neg (by omega)]
  ·split at h
   ·rename_i h1
    split at h
    ·rename_i hn
     rw [Sv.meetT_look ts vs _ b' h x,Sv.lookB_app]
     by_cases e:t.letter=x
     ·rw [if_pos e,if_pos ⟨h1,e⟩,←e,hn]; simp
     ·rw [if_neg e,if_neg (fun k=>e k.2)]; simp
    ·rename_i u hu
     split at h
     ·rw [Sv.meetT_look ts vs b b' h x]
      by_cases e:t.letter=x
      ·rw [←e]; exact or_lem hu _ _
      ·rw [if_neg (fun k=>e k.2)]
     ·cases h
   ·rename_i h1
    split at h
    ·rw [Sv.meetT_look ts vs b b' h x,if_neg (fun k=>h1 k.1)]
    ·cases h
def Sv.CanT (ts:List Sv.Term) (vs:List Int) (b:Sv.Bs):Prop:=
 ∀ i t,ts[i]?=some t→(t.sort=2→vs.getD i 0=t.value)∧(t.sort=1→∀ u,(Sv.lookB b t.letter).or (Sv.fv (ts.take i) (vs.take i) t.letter)=some u→vs.getD i 0=u)
theorem Sv.canT_cons {t:Sv.Term} {ts:List Sv.Term} {v:Int} {vs:List Int} {b b1:Sv.Bs} (hb:∀ x i,(Sv.lookB b1 x).or (Sv.fv (ts.take i) (vs.take i) x)=(Sv.lookB b x).or (Sv.fv ((t :: ts).take (i+1)) ((v :: vs).take (i+1)) x)) :
  Sv.CanT (t :: ts) (v :: vs) b↔((t.sort=2→v=t.value)∧(t.sort=1→∀ u,Sv.lookB b t.letter=some u→v=u))∧Sv.CanT ts vs b1:=by
 constructor
 ·intro h
  refine ⟨?_,fun i s hs=>?_⟩
  ·have:=h 0 t rfl
   simpa [Sv.fv] using this
  ·have:=h (i+1) s (by simpa using hs)
   refine ⟨fun k=>by simpa using this.1 k,fun k u hu=>?_⟩
   rw [hb] at hu
   simpa using this.2 k u hu
 ·rintro ⟨h1,h2⟩ i s hs
  cases i with
  | zero=>
   simp at hs
   subst hs
   simpa [Sv.fv] using h1
  | succ i=>
   have:=h2 i s (by simpa using hs)
   refine ⟨fun k=>by simpa using this.1 k,fun k u hu=>?_⟩
   rw [←hb] at hu
   simpa using this.2 k u hu
theorem Sv.meetT_iff:∀ (ts:List Sv.Term) (vs:List Int) (b:Sv.Bs),ts.length=vs.length→(∀ t∈ts,t.sort≤2)→((Sv.meetT ts vs b).isSome=true↔Sv.CanT ts vs b)
 | [],vs,b,_,_=>by simp [Sv.meetT,Sv.CanT]
 | t :: ts,[],b,h,_=>by simp at h
 | t :: ts,v :: vs,b,hl,hs=>by
  have hl':ts.length=vs.length:=by simpa using hl
  have hs':∀ t∈ts,t.sort≤2:=fun x hx=>hs x (List.mem_cons_of_mem _ hx)
  have ht:=hs t (List.mem_cons_self ..)
  unfold Sv.meetT
  split
  ·rename_i h0
   rw [Sv.meetT_iff ts vs b hl' hs',Sv.canT_cons (b1:=b)]
   ·constructor
    ·intro h; exact ⟨⟨fun k=>by omega,fun k=>by omega⟩,h⟩
    ·exact fun h=>h.2
   ·intro x i
    simp [Sv.fv,h0]
  ·rename_i h0
   split
   ·rename_i h1
    split
    ·rename_i hn
     rw [Sv.meetT_iff ts vs _ hl' hs',Sv.canT_cons (b1:=b ++ [(t.letter,v)])]
     ·constructor
      ·intro h; exact ⟨⟨fun k=>by omega,fun _ u hu=>by rw [hn] at hu; cases hu⟩,h⟩
      ·exact fun h=>h.2
     ·intro x i
      rw [Sv.lookB_app]
      by_cases e:t.letter=x
      ·subst e
       simp [Sv.fv,h1,hn]
      ·simp [Sv.fv,e]
    ·rename_i u hu
     have hb:∀ x i,(Sv.lookB b x).or (Sv.fv (ts.take i) (vs.take i) x)=(Sv.lookB b x).or (Sv.fv ((t :: ts).take (i+1)) ((v :: vs).take (i+1)) x):=by
      intro x i
      by_cases e:t.letter=x
      ·rw [←e]; exact or_lem hu _ _
      ·simp [Sv.fv,e]
     by_cases e:v=u
     ·rw [if_pos e,Sv.meetT_iff ts vs b hl' hs',Sv.canT_cons hb]
      constructor
      ·intro h; exact ⟨⟨fun k=>by omega,fun _ u' hu'=>by rw [hu] at hu'; cases hu'; exact e⟩,h⟩
      ·exact fun h=>h.2
     ·rw [if_neg e]
      constructor
      ·intro h; simp at h
      ·intro h
       exact absurd (((Sv.canT_cons hb).1 h).1.2 h1 u hu) e
   ·rename_i h1
    have h2:t.sort=2:=by omega
    have hb:∀ x i,(Sv.lookB b x).or (Sv.fv (ts.take i) (vs.take i) x)=(Sv.lookB b x).or (Sv.fv ((t :: ts).take (i+1)) ((v :: vs).take (i+1)) x):=by
     intro x i
     simp [Sv.fv,h1]
    by_cases e:v=t.value
    ·rw [if_pos e,Sv.meetT_iff ts vs b hl' hs',Sv.canT_cons hb]
     constructor
     ·intro h; exact ⟨⟨fun _=>e,fun k=>by omega⟩,h⟩
     ·exact fun h=>h.2
    ·rw [if_neg e]
     constructor
     ·intro h; simp at h
     ·intro h
      exact absurd (((Sv.canT_cons hb).1 h).1.1 h2) e
theorem fitT_iff (all:List Sv.Term) (vs:List Int):∀ (ts:List Sv.Term) (p:Nat),fitT all vs p ts=true↔∀ i t,ts[i]?=some t→(t.sort=2→vs.getD (p+i) 0=t.value)∧(t.sort=1→vs.getD (p+i) 0=vs.getD (Sv.tIdx all t) 0)
 | [],p=>by simp [fitT]
 | t :: ts,p=>by
  unfold fitT
  rw [Bool.and_eq_true,fitT_iff all vs ts (p+1)]
  constructor
  ·rintro ⟨h1,h2⟩ i s hs
   cases i with
   | zero=>
    simp only [List.getElem?_cons_zero,Option.some.injEq] at hs
    subst hs
    constructor
    ·intro h; simpa [h] using h1
    ·intro h; simpa [h] using h1
   | succ i=>
    have:=h2 i s (by simpa using hs)
    rw [show p+(i+1)=p+1+i from by omega]
    exact this
  ·intro h
   constructor
   ·have:=h 0 t rfl
    split
    ·rename_i h2; simpa using this.1 h2
    ·split
     ·rename_i h1; simpa using this.2 h1
     ·rfl
   ·intro i s hs
    have:=h (i+1) s (by simpa using hs)
    rw [show p+(i+1)=p+1+i from by omega] at this
    exact this
theorem fitL_iff (ss:List Site) (t:Tok) (f:Sv.Fact):∀ (ts:List Sv.Term) (p:Nat),fitL (Lnk.of ss p ts) t f=true↔∀ i tm,ts[i]?=some tm→tm.sort=1→∀ s,Site.find ss tm.letter=some s→f.vals.getD (p+i) 0=t.val s
 | [],p=>by simp [fitL,Lnk.of]
 | tm :: ts,p=>by
  have ih:=fitL_iff ss t f ts (p+1)
  unfold Lnk.of
  unfold fitL at ih ⊢
  rw [List.all_append,Bool.and_eq_true,ih]
  constructor
  ·rintro ⟨h1,h2⟩ i s hs hv u hu
   cases i with
   | zero=>
    simp only [List.getElem?_cons_zero,Option.some.injEq] at hs
    subst hs
    simpa [hv,hu] using h1
   | succ i=>
    have:=h2 i s (by simpa using hs) hv u hu
    rw [show p+(i+1)=p+1+i from by omega]
    exact this
  ·intro h
   constructor
   ·by_cases hv:tm.sort=1
    ·cases hu:Site.find ss tm.letter with
     | none=>simp [hv]
     | some s=>simpa [hv] using h 0 tm rfl hv s hu
    ·simp [hv]
   ·intro i s hs hv u hu
    have:=h (i+1) s (by simpa using hs) hv u hu
    rw [show p+(i+1)=p+1+i from by omega] at this
    exact this
def Sv.tOk (t:Sv.Term):Prop:=t.sort≤2∧(t.sort=1→t.value=0)
theorem Sv.eqb_var {u t:Sv.Term} (hu:Sv.tOk u) (ht:Sv.tOk t) (h1:t.sort=1):Sv.Term.eqb u t=true↔u.sort=1∧u.letter=t.letter:=by
 unfold Sv.Term.eqb
 simp only [Bool.and_eq_true,beq_iff_eq]
 constructor
 ·rintro ⟨⟨a,b⟩,_⟩; exact ⟨by omega,b⟩
 ·rintro ⟨a,b⟩; exact ⟨⟨by omega,b⟩,by rw [hu.2 a,ht.2 h1]⟩
theorem Sv.tIdx_fv:∀ (ts:List Sv.Term) (vs:List Int) (i:Nat) (t:Sv.Term),(∀ u∈ts,Sv.tOk u)→ts.length=vs.length→ts[i]?=some t→t.sort=1→
  Sv.tIdx ts t≤i∧(∃ u,ts[Sv.tIdx ts t]?=some u∧u.sort=1∧u.letter=t.letter)∧Sv.fv (ts.take i) (vs.take i) t.letter=(if Sv.tIdx ts t < i then some (vs.getD (Sv.tIdx ts t) 0) else none)
 | [],vs,i,t,_,_,h,_=>by simp at h
 | a :: ts,[],i,t,_,h,_,_=>by simp at h
 | a :: ts,v :: vs,i,t,hok,hl,hi,h1=>by
  have hl':ts.length=vs.length:=by simpa using hl
  have hmem:t∈a :: ts:=List.mem_of_getElem? hi
  have hq:=Sv.eqb_var (hok a (List.mem_cons_self ..)) (hok t hmem) h1
  unfold Sv.tIdx
  by_cases e:Sv.Term.eqb a t=true
  ·rw [if_pos e]
   have e2:=hq.1 e
   refine ⟨Nat.zero_le _,⟨a,rfl,e2⟩,?_⟩
   cases i with
   | zero=>simp [Sv.fv]
   | succ i=>simp [Sv.fv,e2.1,e2.2]
  ·rw [if_neg e]
   have e2:¬ (a.sort=1∧a.letter=t.letter):=fun k=>e (hq.2 k)
   cases i with
   | zero=>
    simp only [List.getElem?_cons_zero,Option.some.injEq] at hi
    subst hi
    exact absurd ⟨h1,rfl⟩ e2
   | succ i=>
    obtain ⟨k1,⟨u,k2,k3⟩,k4⟩:=Sv.tIdx_fv ts vs i t (fun u hu=>hok u (List.mem_cons_of_mem _ hu)) hl' (by simpa using hi) h1
    refine ⟨by omega,⟨u,by simpa using k2,k3⟩,?_⟩
    simp only [List.take_succ_cons,Sv.fv,if_neg e2,k4]
    by_cases hlt:Sv.tIdx ts t < i
    ·rw [if_pos hlt,if_pos (by omega)]; simp
    ·rw [if_neg hlt,if_neg (by omega)]
def Bound (ss:List Site) (t:Tok) (b:Sv.Bs):Prop:=∀ x,Sv.lookB b x=(Site.find ss x).map (fun s=>t.val s)
theorem meets_iff {c:Sv.Cond} (hok:∀ u∈c.terms,Sv.tOk u) {ss:List Site} {t:Tok} {b:Sv.Bs} (hb:Bound ss t b) (f:Sv.Fact) :
  (Sv.meets f c b).isSome=(fitC c f && fitL (Lnk.of ss 0 c.terms) t f):=by
 unfold Sv.meets fitC
 by_cases hk:f.kind=(c.kind:Int)
 ·by_cases hl:f.vals.length=c.terms.length
  ·rw [if_pos ⟨hk,hl⟩,Bool.eq_iff_iff,Sv.meetT_iff _ _ _ hl.symm (fun u hu=>(hok u hu).1)]
   simp only [hk,hl,BEq.rfl,Bool.true_and,Bool.and_eq_true]
   rw [fitT_iff,fitL_iff]
   simp only [Nat.zero_add]
   constructor
   ·intro h
    have hL:∀ i tm,c.terms[i]?=some tm→tm.sort=1→∀ u,Sv.lookB b tm.letter=some u→f.vals.getD i 0=u:=fun i tm hi h1 u hu=>(h i tm hi).2 h1 u (by rw [hu]; rfl)
    refine ⟨fun i tm hi=>⟨(h i tm hi).1,fun h1=>?_⟩,fun i tm hi h1 s hs=>hL i tm hi h1 _ (by rw [hb,hs]; rfl)⟩
    obtain ⟨k1,⟨u,k2,k3,k4⟩,k5⟩:=Sv.tIdx_fv c.terms f.vals i tm hok hl.symm hi h1
    cases hu:Sv.lookB b tm.letter with
    | some x=>rw [hL i tm hi h1 x hu,hL _ u k2 k3 x (by rw [k4]; exact hu)]
    | none=>
     by_cases hlt:Sv.tIdx c.terms tm < i
     ·rw [if_pos hlt] at k5
      exact (h i tm hi).2 h1 _ (by rw [hu,k5]; rfl)
     ·rw [show Sv.tIdx c.terms tm=i from by omega]
   ·rintro ⟨h1,h2⟩ i tm hi
    refine ⟨(h1 i tm hi).1,fun h3 u hu=>?_⟩
    obtain ⟨k1,_,k5⟩:=Sv.tIdx_fv c.terms f.vals i tm hok hl.symm hi h3
    cases hx:Sv.lookB b tm.letter with
    | some x=>
     rw [hx] at hu
     simp at hu
     subst hu
     rw [hb] at hx
     cases hs:Site.find ss tm.letter with
     | none=>rw [hs] at hx; simp at hx
     | some s=>
      rw [hs] at hx
      simp at hx
      rw [←hx]
      exact h2 i tm hi h3 s hs
    | none=>
     rw [hx,k5] at hu
     by_cases hlt:Sv.tIdx c.terms tm < i
     ·rw [if_pos hlt] at hu
      simp at hu
      rw [←hu]
      simpa using (h1 i tm hi).2 h3
     ·rw [if_neg hlt] at hu; simp at hu
  ·rw [if_neg (fun h=>hl h.2)]
   simp [hl]
 ·rw [if_neg (fun h=>hk h.1)]
  simp [hk]
theorem Site.bindT_find (k:Nat) (vs:List Int):∀ (ts:List Sv.Term) (p:Nat) (x:UInt8),(Site.find (Site.bindT k p ts) x)=none∧Sv.fv ts (vs.drop p) x=none∨(∃ q,Site.find (Site.bindT k p ts) x=some ⟨x,k,q⟩∧(ts.length≤(vs.drop p).length→Sv.fv ts (vs.drop p) x=some (vs.getD q 0)))∨¬ ts.length≤(vs.drop p).length
 | [],p,x=>.inl ⟨rfl,by simp [Sv.fv]⟩
 | t :: ts,p,x=>by
  by_cases hlen:(t :: ts).length≤(vs.drop p).length
  ·have hp:p < vs.length:=by simp at hlen; omega
   have hd:vs.drop p=vs[p] :: vs.drop (p+1):=List.drop_eq_getElem_cons hp
   have hlen2:ts.length≤(vs.drop (p+1)).length:=by simp at hlen ⊢; omega
   unfold Site.bindT
   rw [hd]
   simp only [Sv.fv]
   by_cases h1:t.sort=1
   ·rw [if_pos h1]
    simp only [List.singleton_append,Site.find]
    by_cases e:t.letter=x
    ·right; left
     refine ⟨p,by simp [e],fun _=>?_⟩
     rw [if_pos ⟨h1,e⟩]
     simp [hp]
    ·rw [if_neg e,if_neg (fun k=>e k.2)]
     rcases Site.bindT_find k vs ts (p+1) x with h | ⟨q,h2,h3⟩ | h
     ·exact .inl h
     ·exact .inr (.inl ⟨q,h2,fun _=>h3 hlen2⟩)
     ·exact absurd hlen2 h
   ·rw [if_neg h1,if_neg (fun k=>h1 k.1)]
    simp only [List.nil_append]
    rcases Site.bindT_find k vs ts (p+1) x with h | ⟨q,h2,h3⟩ | h
    ·exact .inl h
    ·exact .inr (.inl ⟨q,h2,fun _=>h3 hlen2⟩)
    ·exact absurd hlen2 h
  ·exact .inr (.inr hlen)
theorem Tok.val_app (t:Tok) (g:Ft) (s:Site) (h:s.fact < t.length):Tok.val (t ++ [g]) s=t.val s:=by
 unfold Tok.val
 rw [List.getElem?_append_left h]
theorem Site.find_mem:∀ (ss:List Site) (x:UInt8) (s:Site),Site.find ss x=some s→s∈ss
 | [],x,s,h=>by simp [Site.find] at h
 | a :: ss,x,s,h=>by
  unfold Site.find at h
  split at h
  ·cases h; exact List.mem_cons_self ..
  ·exact List.mem_cons_of_mem _ (Site.find_mem ss x s h)
theorem Bound.step {ss:List Site} {t:Tok} {b b':Sv.Bs} (hb:Bound ss t b) (hs:∀ s∈ss,s.fact < t.length) {c:Sv.Cond} {g:Ft} (hm:Sv.meets g.f c b=some b'):Bound (ss ++ Site.bindT t.length 0 c.terms) (t ++ [g]) b':=by
 intro x
 unfold Sv.meets at hm
 split at hm
 ·rename_i hk
  rw [Sv.meetT_look _ _ _ _ hm x,hb x,Site.find_app]
  cases hf:Site.find ss x with
  | some s=>
   simp only [Option.map_some,Option.some_or]
   rw [Tok.val_app t g s (hs s (Site.find_mem ss x s hf))]
  | none=>
   simp only [Option.map_none,Option.none_or]
   rcases Site.bindT_find t.length g.f.vals c.terms 0 x with ⟨h1,h2⟩ | ⟨q,h1,h2⟩ | h
   ·rw [h1]; simpa using h2
   ·rw [h1]
    have:=h2 (by simp [hk.2])
    rw [List.drop_zero] at this
    rw [this]
    simp [Tok.val]
   ·exact absurd (by simp [hk.2]) h
 ·cases hm
theorem Site.bindT_fact (k:Nat):∀ (ts:List Sv.Term) (p:Nat),∀ s∈Site.bindT k p ts,s.fact=k
 | [],p,s,h=>by simp [Site.bindT] at h
 | t :: ts,p,s,h=>by
  unfold Site.bindT at h
  rcases List.mem_append.1 h with h | h
  ·split at h
   ·simp at h; rw [h]
   ·simp at h
  ·exact Site.bindT_fact k ts (p+1) s h
end Go.Proofs.YtolhbeekfjnfmaaGreatDoor
namespace Go.Proofs.YtolhbeekfjnfmaaGreatDoor
def Tok.nums (t:Tok):List Int:=t.map (fun g=>g.id) ++ List.replicate (4 - t.length) 0
def cmpL:List Int→List Int→Int
 | [],[]=>0
 | [],_ :: _=>-1
 | _ :: _,[]=>1
 | a :: x,b :: y=>if a < b then -1 else if b < a then 1 else cmpL x y
def sortI (l:List Int):List Int:=l.mergeSort (fun a b=>decide (a≤b))
def Tok.age (t:Tok):List Int:=(sortI t.nums).reverse
def Tok.less (t u:Tok):Bool:=if cmpL t.age u.age=0 then decide (cmpL t.nums u.nums < 0) else decide (0 < cmpL t.age u.age)
def Hp.swap {α:Type} (l:List α) (i j:Nat):List α:=
 match l[i]?,l[j]? with
 | some a,some b=>(l.set i b).set j a
 | _,_=>l
def Hp.lt {α:Type} (lt:α→α→Bool) (l:List α) (i j:Nat):Bool:=
 match l[i]?,l[j]? with
 | some a,some b=>lt a b
 | _,_=>false
def Hp.up {α:Type} (lt:α→α→Bool) (l:List α) (j:Nat):List α:=
 if h:j=0 then l
 else if Hp.lt lt l j ((j - 1) / 2)=true then Hp.up lt (Hp.swap l ((j - 1) / 2) j) ((j - 1) / 2) else l
 termination_by j
 decreasing_by omega
def Hp.kid {α:Type} (lt:α→α→Bool) (n:Nat) (l:List α) (i:Nat):Nat:=
 if 2 * i+2 < n∧Hp.lt lt l (2 * i+2) (2 * i+1)=true then 2 * i+2 else 2 * i+1
theorem Hp.kid_gt {α:Type} (lt:α→α→Bool) (n:Nat) (l:List α) (i:Nat):i < Hp.kid lt n l i:=by
 unfold Hp.kid
 split<;>omega
theorem Hp.kid_lt {α:Type} (lt:α→α→Bool) (n:Nat) (l:List α) (i:Nat) (h:2 * i+1 < n):Hp.kid lt n l i < n:=by
 unfold Hp.kid
 split
 ·rename_i k; exact k.1
 ·exact h
def Hp.down {α:Type} (lt:α→α→Bool) (n:Nat) (l:List α) (i:Nat):List α:=
 if _h:2 * i+1 < n then
  (if Hp.lt lt l (Hp.kid lt n l i) i=true then Hp.down lt n (Hp.swap l i (Hp.kid lt n l i)) (Hp.kid lt n l i) else l)
 else l
 termination_by n - i
 decreasing_by
 have h1:=Hp.kid_gt lt n l i
 have h2:=Hp.kid_lt lt n l i _h
 omega
def Hp.initF {α:Type} (lt:α→α→Bool):Nat→List α→List α
 | 0,l=>l
 | i+1,l=>Hp.initF lt i (Hp.down lt l.length l i)
def Hp.init {α:Type} (lt:α→α→Bool) (l:List α):List α:=Hp.initF lt (l.length / 2) l
def Hp.push {α:Type} (lt:α→α→Bool) (l:List α) (t:α):List α:=Hp.up lt (l ++ [t]) l.length
theorem set_perm {α:Type} (a b:α):∀ (l:List α) (j:Nat),l[j]?=some b→(b :: l.set j a).Perm (a :: l)
 | [],j,h=>by simp at h
 | x :: l,0,h=>by
  simp at h
  subst h
  simp only [List.set_cons_zero]
  exact List.Perm.swap _ _ _
 | x :: l,j+1,h=>by
  simp only [List.set_cons_succ]
  have h1:=set_perm a b l j (by simpa using h)
  exact (List.Perm.swap _ _ _).trans ((h1.cons x).trans (List.Perm.swap _ _ _))
theorem swap_perm0 {α:Type}:∀ (l:List α) (i j:Nat) (a b:α),i < j→l[i]?=some a→l[j]?=some b→((l.set i b).set j a).Perm l
 | [],i,j,a,b,_,h,_=>by simp at h
 | x :: l,0,0,a,b,h,_,_=>by omega
 | x :: l,0,j+1,a,b,_,h1,h2=>by
  simp at h1
  subst h1
  simp only [List.set_cons_zero,List.set_cons_succ]
  exact set_perm x b l j (by simpa using h2)
 | x :: l,i+1,0,a,b,h,_,_=>by omega
 | x :: l,i+1,j+1,a,b,h,h1,h2=>by
  simp only [List.set_cons_succ]
  exact (swap_perm0 l i j a b (by omega) (by simpa using h1) (by simpa using h2)).cons x
theorem Hp.swap_perm {α:Type} (l:List α) (i j:Nat):(Hp.swap l i j).Perm l:=by
 unfold Hp.swap
 split
 ·rename_i a b h1 h2
  rcases Nat.lt_trichotomy i j with h | h | h
  ·exact swap_perm0 l i j a b h h1 h2
  ·subst h
   rw [h1] at h2
   cases h2
   have e:l.set i a=l:=by
    obtain ⟨hi,rfl⟩:=List.getElem?_eq_some_iff.1 h1
    exact List.set_getElem_self hi
   rw [e,e]
  ·rw [List.set_comm _ _ (by omega)]
   exact swap_perm0 l j i b a h h2 h1
 ·exact List.Perm.refl _
theorem Hp.up_perm {α:Type} (lt:α→α→Bool) (l:List α) (j:Nat):(Hp.up lt l j).Perm l:=by
 induction j using Nat.strongRecOn generalizing l with
 | _ j ih=>
  unfold Hp.up
  split
  ·exact List.Perm.refl _
  ·split
   ·exact (ih ((j - 1) / 2) (by omega) _).trans (Hp.swap_perm _ _ _)
   ·exact List.Perm.refl _
theorem Hp.down_perm {α:Type} (lt:α→α→Bool) (n:Nat):∀ (m:Nat) (l:List α) (i:Nat),n - i≤m→(Hp.down lt n l i).Perm l
 | 0,l,i,h=>by
  unfold Hp.down
  rw [dif_neg (by omega)]
 | m+1,l,i,h=>by
  unfold Hp.down
  split
  ·rename_i h1
   split
   ·have h2:=Hp.kid_gt lt n l i
    exact (Hp.down_perm lt n m _ _ (by omega)).trans (Hp.swap_perm _ _ _)
   ·exact List.Perm.refl _
  ·exact List.Perm.refl _
theorem Hp.initF_perm {α:Type} (lt:α→α→Bool):∀ (i:Nat) (l:List α),(Hp.initF lt i l).Perm l
 | 0,_=>List.Perm.refl _
 | i+1,l=>(Hp.initF_perm lt i _).trans (Hp.down_perm lt _ _ l i (Nat.le_refl _))
theorem Hp.init_perm {α:Type} (lt:α→α→Bool) (l:List α):(Hp.init lt l).Perm l:=Hp.initF_perm lt _ l
theorem Hp.push_perm {α:Type} (lt:α→α→Bool) (l:List α) (t:α):(Hp.push lt l t).Perm (l ++ [t]):=Hp.up_perm lt _ _
theorem Hp.fold_perm {α:Type} (lt:α→α→Bool):∀ (ts:List α) (l:List α),(ts.foldl (Hp.push lt) l).Perm (l ++ ts)
 | [],l=>by simp
 | t :: ts,l=>by
  simp only [List.foldl_cons]
  refine (Hp.fold_perm lt ts _).trans ?_
  have h:=(Hp.push_perm lt l t).append_right ts
  simpa using h
abbrev arr:=arrives (Hp.push Tok.less)
def En.drop (gone:Tok→Bool) (e:En):En:=⟨e.toks.filter (fun t=>!gone t),Hp.init Tok.less (e.wait.filter (fun t=>!gone t))⟩
def addStep (f:Ft) (n:Nd) (ns:List Nd) (e:En):Nd×(List Nd×En):=
 if fitC n.c f.f=true then
  ({ n with K:=n.K ++ [f] },if n.c.neg=true then (ns.map (Nd.drop (fun t=>fitL n.links t f.f)),e.drop (fun t=>fitL n.links t f.f))
   else arr ns e ((n.toks.filter (fun t=>fitL n.links t f.f)).map (fun t=>t ++ [f])))
 else (n,(ns,e))
def addAll (f:Ft):Nat→List Nd→En→List Nd×En
 | 0,ns,e=>(ns,e)
 | _+1,[],e=>([],e)
 | k+1,n :: ns,e=>((addStep f n ns e).1 :: (addAll f k (addStep f n ns e).2.1 (addStep f n ns e).2.2).1,(addAll f k (addStep f n ns e).2.1 (addStep f n ns e).2.2).2)
theorem addStep_len (f:Ft) (n:Nd) (ns:List Nd) (e:En):(addStep f n ns e).2.1.length=ns.length:=by
 unfold addStep
 split
 ·split
  ·simp
  ·exact arrives_len _ _ _ _
 ·rfl
def Inv:List Tok→List Nd→En→Prop
 | B,[],e=>e.toks.Perm B
 | B,n :: ns,e=>n.toks.Perm B∧Inv (B.flatMap n.ext) ns e
def reach:List Nd→Tok→List Tok
 | [],t=>[t]
 | n :: ns,t=>(n.ext t).flatMap (reach ns)
theorem Inv.toks:∀ {B:List Tok} {ns:List Nd} {e:En},Inv B ns e→e.toks.Perm (B.flatMap (reach ns))
 | B,[],e,h=>by simpa [reach,Inv] using h
 | B,n :: ns,e,h=>by
  have:=Inv.toks h.2
  rw [List.flatMap_assoc] at this
  exact this
theorem Inv.perm:∀ {B B':List Tok} {ns:List Nd} {e:En},Inv B ns e→B.Perm B'→Inv B' ns e
 | _,_,[],_,h,hp=>List.Perm.trans h hp
 | _,_,_ :: _,_,h,hp=>⟨h.1.trans hp,h.2.perm (hp.flatMap_right _)⟩
theorem Inv.arr:∀ {B:List Tok} {ns:List Nd} {e:En} (X:List Tok),Inv B ns e→Inv (B ++ X) (arr ns e X).1 (arr ns e X).2
 | B,[],e,X,h=>List.Perm.append_right X h
 | B,n :: ns,e,X,h=>by
  refine ⟨h.1.append_right X,?_⟩
  have:=Inv.arr (X.flatMap n.ext) h.2
  rw [←List.flatMap_append] at this
  exact this
theorem fitL_app {ls:List Lnk} {t:Tok} {g:Ft} {f:Sv.Fact} (h:∀ l∈ls,l.at'.fact < t.length):fitL ls (t ++ [g]) f=fitL ls t f:=by
 unfold fitL
 rw [Bool.eq_iff_iff,List.all_eq_true,List.all_eq_true]
 constructor
 ·intro k l hl
  rw [←Tok.val_app t g l.at' (h l hl)]
  exact k l hl
 ·intro k l hl
  rw [Tok.val_app t g l.at' (h l hl)]
  exact k l hl
theorem Nd.ext_mem {n:Nd} {t u:Tok} (h:u∈n.ext t):u=t∨∃ g∈n.K,u=t ++ [g]:=by
 unfold Nd.ext at h
 split at h
 ·split at h
  ·simp at h
  ·simp at h; exact .inl h
 ·obtain ⟨g,hg,rfl⟩:=List.mem_map.1 h
  exact .inr ⟨g,(List.mem_filter.1 hg).1,rfl⟩
theorem Nd.ext_len {n:Nd} {t u:Tok} (h:u∈n.ext t):u.length=t.length+(if n.c.neg=true then 0 else 1):=by
 unfold Nd.ext at h
 split at h
 ·rename_i hn
  rw [if_pos hn]
  split at h
  ·simp at h
  ·simp at h; rw [h]; rfl
 ·rename_i hn
  rw [if_neg hn]
  obtain ⟨g,hg,rfl⟩:=List.mem_map.1 h
  simp
theorem flatMap_filter_comm {α β:Type} (p:α→Bool) (q:β→Bool) (g:α→List β):∀ (B:List α),(∀ t∈B,∀ u∈g t,q u=p t)→(B.flatMap g).filter q=(B.filter p).flatMap g
 | [],_=>rfl
 | t :: B,h=>by
  have ih:=flatMap_filter_comm p q g B (fun x hx=>h x (List.mem_cons_of_mem _ hx))
  rw [List.flatMap_cons,List.filter_append,ih]
  by_cases e:p t=true
  ·have h1:(g t).filter q=g t:=List.filter_eq_self.2 (fun u hu=>by rw [h t (List.mem_cons_self ..) u hu]; exact e)
   simp [h1,e]
  ·have e2:p t=false:=by simpa using e
   have h1:(g t).filter q=[]:=List.filter_eq_nil_iff.2 (fun u hu=>by rw [h t (List.mem_cons_self ..) u hu,e2]; simp)
   simp [h1,e2]
theorem Inv.drop {ls:List Lnk} {f:Sv.Fact} {k:Nat} (hk:∀ l∈ls,l.at'.fact < k):∀ {B:List Tok} {ns:List Nd} {e:En},Inv B ns e→(∀ t∈B,k≤t.length)→
  Inv (B.filter (fun t=>!fitL ls t f)) (ns.map (Nd.drop (fun t=>fitL ls t f))) (e.drop (fun t=>fitL ls t f))
 | B,[],e,h,_=>List.Perm.filter _ h
 | B,n :: ns,e,h,hB=>by
  refine ⟨h.1.filter _,?_⟩
  have hB2:∀ t∈B.flatMap n.ext,k≤t.length:=by
   intro t ht
   obtain ⟨u,hu,hv⟩:=List.mem_flatMap.1 ht
   have:=Nd.ext_len hv
   have:=hB u hu
   omega
  have:=Inv.drop (f:=f) hk h.2 hB2
  rw [flatMap_filter_comm (fun t=>!fitL ls t f)] at this
  ·exact this
  ·intro t ht u hu
   rcases Nd.ext_mem hu with rfl | ⟨g,_,rfl⟩
   ·rfl
   ·rw [fitL_app (fun l hl=>Nat.lt_of_lt_of_le (hk l hl) (hB t ht))]
theorem flatMap_app_perm {α β:Type} (a b:α→List β):∀ (B:List α),(B.flatMap (fun t=>a t ++ b t)).Perm (B.flatMap a ++ B.flatMap b)
 | []=>by simp
 | t :: B=>by
  simp only [List.flatMap_cons]
  have ih:=flatMap_app_perm a b B
  have h1:((a t ++ b t) ++ List.flatMap (fun t=>a t ++ b t) B).Perm ((a t ++ b t) ++ (B.flatMap a ++ B.flatMap b)):=ih.append_left _
  refine h1.trans ?_
  rw [List.append_assoc,List.append_assoc]
  refine List.Perm.append_left _ ?_
  rw [←List.append_assoc,←List.append_assoc]
  exact List.perm_append_comm.append_right _
theorem flatMap_if {α β:Type} (p:α→Bool) (g:α→β):∀ (B:List α),B.flatMap (fun t=>if p t=true then [g t] else [])=(B.filter p).map g
 | []=>rfl
 | t :: B=>by
  rw [List.flatMap_cons,flatMap_if p g B]
  by_cases h:p t=true
  ·simp [h]
  ·simp [h]
theorem ext_join (n:Nd) (f:Ft) (hn:n.c.neg=false) (t:Tok):Nd.ext { n with K:=n.K ++ [f] } t=n.ext t ++ (if fitL n.links t f.f=true then [t ++ [f]] else []):=by
 unfold Nd.ext
 simp only [hn,Bool.false_eq_true,if_false,List.filter_append,List.map_append]
 congr 1
 by_cases h:fitL n.links t f.f=true
 ·simp [h]
 ·simp [h]
theorem ext_hold (n:Nd) (f:Ft) (hn:n.c.neg=true) (t:Tok):Nd.ext { n with K:=n.K ++ [f] } t=if fitL n.links t f.f=true then [] else n.ext t:=by
 unfold Nd.ext
 simp only [hn,if_true,List.any_append]
 by_cases h:fitL n.links t f.f=true
 ·simp [h]
 ·simp [h]
theorem flatMap_not {α β:Type} (p:α→Bool) (g:α→List β):∀ (B:List α),B.flatMap (fun t=>if p t=true then [] else g t)=(B.filter (fun t=>!p t)).flatMap g
 | []=>rfl
 | t :: B=>by
  rw [List.flatMap_cons,flatMap_not p g B]
  by_cases h:p t=true
  ·simp [h]
  ·simp [h]
theorem ext_neg_filter (n:Nd) (hn:n.c.neg=true) (p:Tok→Bool) (B:List Tok):(B.filter p).flatMap n.ext=(B.flatMap n.ext).filter p:=by
 symm
 refine flatMap_filter_comm p p n.ext B ?_
 intro t _ u hu
 unfold Nd.ext at hu
 rw [if_pos hn] at hu
 split at hu
 ·simp at hu
 ·simp at hu; rw [hu]
theorem addStep_inv {f:Ft} {n:Nd} {ns:List Nd} {e:En} {B:List Tok} {k:Nat} (h:Inv B (n :: ns) e) (hk:∀ l∈n.links,l.at'.fact < k) (hB:∀ t∈B,t.length=k) :
  Inv B ((addStep f n ns e).1 :: (addStep f n ns e).2.1) (addStep f n ns e).2.2:=by
 unfold addStep
 by_cases hf:fitC n.c f.f=true
 ·rw [if_pos hf]
  by_cases hn:n.c.neg=true
  ·simp only [hn,if_true]
   refine ⟨h.1,?_⟩
   have h2:∀ t∈B.flatMap n.ext,k≤t.length:=by
    intro t ht
    obtain ⟨u,hu,hv⟩:=List.mem_flatMap.1 ht
    have:=Nd.ext_len hv
    have:=hB u hu
    omega
   have:=Inv.drop (f:=f.f) hk h.2 h2
   have e:B.flatMap (Nd.ext { n with K:=n.K ++ [f] })=(B.flatMap n.ext).filter (fun t=>!fitL n.links t f.f):=by
    rw [show Nd.ext { n with K:=n.K ++ [f] }=fun t=>if fitL n.links t f.f=true then [] else n.ext t from funext (ext_hold n f hn),flatMap_not,ext_neg_filter n hn]
   rw [e]
   exact this
  ·have hn2:n.c.neg=false:=by simpa using hn
   simp only [hn2,Bool.false_eq_true,if_false]
   refine ⟨h.1,?_⟩
   have h3:=Inv.arr ((n.toks.filter (fun t=>fitL n.links t f.f)).map (fun t=>t ++ [f])) h.2
   refine h3.perm ?_
   rw [show Nd.ext { n with K:=n.K ++ [f] }=fun t=>n.ext t ++ (if fitL n.links t f.f=true then [t ++ [f]] else []) from funext (ext_join n f hn2)]
   refine List.Perm.symm ((flatMap_app_perm _ _ B).trans ?_)
   rw [flatMap_if]
   exact List.Perm.append_left _ (((h.1.symm).filter _).map _)
 ·rw [if_neg hf]
  exact h
def Good (F:List Ft):List Site→Nat→List Nd→List Sv.Cond→Prop
 | _,_,[],[]=>True
 | ss,k,n :: ns,c :: cs=>n.c=c∧n.links=Lnk.of ss 0 c.terms∧n.K=F.filter (fun g=>fitC c g.f)∧Good F (if c.neg=true then ss else ss ++ Site.bindT k 0 c.terms) (if c.neg=true then k else k+1) ns cs
 | _,_,_,_=>False
theorem Good.len {F:List Ft}:∀ {ss:List Site} {k:Nat} {ns:List Nd} {cs:List Sv.Cond},Good F ss k ns cs→ns.length=cs.length
 | _,_,[],[],_=>rfl
 | _,_,[],_ :: _,h=>h.elim
 | _,_,_ :: _,[],h=>h.elim
 | _,_,_ :: _,_ :: _,h=>by simp [h.2.2.2.len]
theorem Lnk.of_fact (ss:List Site) (k:Nat) (h:∀ s∈ss,s.fact < k):∀ (ts:List Sv.Term) (p:Nat),∀ l∈Lnk.of ss p ts,l.at'.fact < k
 | [],p,l,hl=>by simp [Lnk.of] at hl
 | t :: ts,p,l,hl=>by
  unfold Lnk.of at hl
  rcases List.mem_append.1 hl with hl | hl
  ·split at hl
   ·split at hl
    ·simp at hl
    ·rename_i s hs
     simp at hl
     rw [hl]
     exact h s (Site.find_mem ss _ s hs)
   ·simp at hl
  ·exact Lnk.of_fact ss k h ts (p+1) l hl
theorem sites_next {ss:List Site} {k:Nat} (h:∀ s∈ss,s.fact < k) (c:Sv.Cond):∀ s∈(if c.neg=true then ss else ss ++ Site.bindT k 0 c.terms),s.fact < (if c.neg=true then k else k+1):=by
 split
 ·exact h
 ·intro s hs
  rcases List.mem_append.1 hs with hs | hs
  ·have:=h s hs; omega
  ·have:=Site.bindT_fact k c.terms 0 s hs; omega
theorem Good.same {F:List Ft}:∀ {ss:List Site} {k:Nat} {ns ns':List Nd} {cs:List Sv.Cond},Good F ss k ns cs→ns.map (fun n=>(n.c,n.links,n.K))=ns'.map (fun n=>(n.c,n.links,n.K))→Good F ss k ns' cs
 | _,_,[],[],[],_,_=>trivial
 | _,_,[],_ :: _,_,_,h=>by simp at h
 | _,_,_ :: _,[],_,_,h=>by simp at h
 | _,_,[],[],_ :: _,h,_=>h.elim
 | _,_,_ :: _,_ :: _,[],h,_=>h.elim
 | _,_,n :: ns,m :: ns',c :: cs,h,he=>by
  simp only [List.map_cons,List.cons.injEq,Prod.mk.injEq] at he
  obtain ⟨⟨e1,e2,e3⟩,e4⟩:=he
  exact ⟨by rw [←e1]; exact h.1,by rw [←e2]; exact h.2.1,by rw [←e3]; exact h.2.2.1,h.2.2.2.same e4⟩
theorem arr_same:∀ (ns:List Nd) (e:En) (X:List Tok),ns.map (fun n=>(n.c,n.links,n.K))=(arr ns e X).1.map (fun n=>(n.c,n.links,n.K))
 | [],e,X=>rfl
 | n :: ns,e,X=>by
  simp only [arr,arrives,List.map_cons]
  rw [arr_same ns e]
theorem addStep_same (f:Ft) (n:Nd) (ns:List Nd) (e:En):ns.map (fun n=>(n.c,n.links,n.K))=(addStep f n ns e).2.1.map (fun n=>(n.c,n.links,n.K)):=by
 unfold addStep
 split
 ·split
  ·simp [Nd.drop,List.map_map,Function.comp_def]
  ·exact arr_same _ _ _
 ·rfl
theorem addAll_ok {F:List Ft} (f:Ft):∀ {ss:List Site} {k:Nat} {ns:List Nd} {cs:List Sv.Cond} {B:List Tok} {e:En},Good F ss k ns cs→(∀ s∈ss,s.fact < k)→(∀ t∈B,t.length=k)→Inv B ns e→
  Good (F ++ [f]) ss k (addAll f ns.length ns e).1 cs∧Inv B (addAll f ns.length ns e).1 (addAll f ns.length ns e).2
 | _,_,[],[],_,_,h,_,_,hi=>⟨h,hi⟩
 | _,_,[],_ :: _,_,_,h,_,_,_=>h.elim
 | _,_,_ :: _,[],_,_,h,_,_,_=>h.elim
 | ss,k,n :: ns,c :: cs,B,e,h,hs,hB,hi=>by
  obtain ⟨h1,h2,h3,h4⟩:=h
  have hk:∀ l∈n.links,l.at'.fact < k:=by rw [h2]; exact Lnk.of_fact ss k hs c.terms 0
  have hi2:=addStep_inv (f:=f) hi hk hB
  have hg2:=h4.same (addStep_same f n ns e)
  have hl:=addStep_len f n ns e
  have hc:(addStep f n ns e).1.c=c∧(addStep f n ns e).1.links=Lnk.of ss 0 c.terms∧(addStep f n ns e).1.K=(F ++ [f]).filter (fun g=>fitC c g.f):=by
   unfold addStep
   by_cases hf:fitC n.c f.f=true
   ·rw [if_pos hf]
    rw [h1] at hf
    exact ⟨h1,h2,by simp [h3,hf]⟩
   ·rw [if_neg hf]
    rw [h1] at hf
    exact ⟨h1,h2,by simp [h3,hf]⟩
  have hB2:∀ t∈B.flatMap (addStep f n ns e).1.ext,t.length=(if c.neg=true then k else k+1):=by
   intro t ht
   obtain ⟨u,hu,hv⟩:=List.mem_flatMap.1 ht
   have e1:=Nd.ext_len hv
   rw [hc.1] at e1
   rw [e1,hB u hu]
   split<;>rfl
  have ih:=addAll_ok f (ns:=(addStep f n ns e).2.1) hg2 (sites_next hs c) hB2 hi2.2
  rw [hl] at ih
  exact ⟨⟨hc.1,hc.2.1,hc.2.2,ih.1⟩,hi2.1,ih.2⟩
theorem Good.outs {F:List Ft}:∀ {ss:List Site} {ns:List Nd} {cs:List Sv.Cond} {t:Tok} {b:Sv.Bs},Good F ss t.length ns cs→(∀ s∈ss,s.fact < t.length)→(∀ c∈cs,∀ u∈c.terms,Sv.tOk u)→Bound ss t b→
  (reach ns t).map (List.map (fun g=>g.id))=Sv.fromD (F.map (fun g=>(g.id,g.f))) cs b (t.map (fun g=>g.id))
 | _,[],[],t,b,_,_,_,_=>rfl
 | _,[],_ :: _,_,_,h,_,_,_=>h.elim
 | _,_ :: _,[],_,_,h,_,_,_=>h.elim
 | ss,n :: ns,c :: cs,t,b,h,hs,hok,hb=>by
  obtain ⟨h1,h2,h3,h4⟩:=h
  have hm:=fun f=>meets_iff (hok c (List.mem_cons_self ..)) hb f
  have hok2:∀ c∈cs,∀ u∈c.terms,Sv.tOk u:=fun c hc=>hok c (List.mem_cons_of_mem _ hc)
  unfold reach Sv.fromD Nd.ext
  rw [h1,h2,h3]
  by_cases hn:c.neg=true
  ·simp only [hn,if_true] at h4 ⊢
   have e:(F.map (fun g=>(g.id,g.f))).any (fun p=>(Sv.meets p.2 c b).isSome)=(F.filter (fun g=>fitC c g.f)).any (fun g=>fitL (Lnk.of ss 0 c.terms) t g.f):=by
    rw [List.any_map,List.any_filter]
    congr 1
    funext g
    simp [hm]
   rw [e]
   by_cases ha:(F.filter (fun g=>fitC c g.f)).any (fun g=>fitL (Lnk.of ss 0 c.terms) t g.f)=true
   ·rw [if_pos ha,if_pos ha]; simp
   ·rw [if_neg ha,if_neg ha]
    simp only [List.flatMap_cons,List.flatMap_nil,List.append_nil]
    exact Good.outs h4 hs hok2 hb
  ·have hn2:c.neg=false:=by simpa using hn
   simp only [hn2,Bool.false_eq_true,if_false] at h4 ⊢
   rw [List.filter_filter,List.flatMap_map,List.map_flatMap,List.flatMap_map]
   have:∀ (G:List Ft),(G.filter (fun a=>fitL (Lnk.of ss 0 c.terms) t a.f && fitC c a.f)).flatMap (fun a=>((reach ns (t ++ [a]))).map (List.map (fun g=>g.id)))=G.flatMap (fun a=>match Sv.meets a.f c b with | none=>[] | some b'=>Sv.fromD (F.map (fun g=>(g.id,g.f))) cs b' (t.map (fun g=>g.id) ++ [a.id])):=by
    intro G
    induction G with
    | nil=>rfl
    | cons a G ih=>
     rw [List.flatMap_cons,←ih,List.filter_cons]
     have hma:=hm a.f
     cases hx:Sv.meets a.f c b with
     | none=>
      rw [hx] at hma
      have:¬ ((fitL (Lnk.of ss 0 c.terms) t a.f && fitC c a.f)=true):=by
       rw [Bool.and_comm,←hma]; simp
      rw [if_neg this]
      simp
     | some b'=>
      rw [hx] at hma
      have:(fitL (Lnk.of ss 0 c.terms) t a.f && fitC c a.f)=true:=by
       rw [Bool.and_comm,←hma]; rfl
      rw [if_pos this,List.flatMap_cons]
      congr 1
      have hl:(t ++ [a]).length=t.length+1:=by simp
      have hs2:=sites_next hs c
      simp only [hn2,Bool.false_eq_true,if_false] at hs2
      have:=Good.outs (t:=t ++ [a]) (b:=b') (by rw [hl]; exact h4) (by rw [hl]; exact hs2) hok2 (hb.step hs hx)
      rw [this]
      simp
   exact this F
end Go.Proofs.YtolhbeekfjnfmaaGreatDoor
namespace Go.Proofs.YtolhbeekfjnfmaaGreatDoor
def Tok.has (f:Ft) (t:Tok):Bool:=t.any (fun g=>g.blk == f.blk)
def Nd.less (f:Ft) (n:Nd):Nd:={ n with K:=n.K.filter (fun g=>!(g.blk == f.blk)) }
def Nd.half (f:Ft) (n:Nd) (t:Tok):List Tok:=if n.c.neg=true then n.ext t else (n.less f).ext t
def HInv (f:Ft):List Tok→List Nd→En→Prop
 | B,[],e=>e.toks.Perm B
 | B,n :: ns,e=>n.toks.Perm B∧HInv f (B.flatMap (n.half f)) ns e
theorem filter_flatMap {α β:Type} (q:β→Bool) (g:α→List β) (B:List α):(B.flatMap g).filter q=B.flatMap (fun t=>(g t).filter q):=by
 induction B with
 | nil=>rfl
 | cons t B ih=>rw [List.flatMap_cons,List.flatMap_cons,List.filter_append,ih]
theorem half_filter (f:Ft) (n:Nd) (B:List Tok):(B.flatMap n.ext).filter (fun t=>!Tok.has f t)=(B.filter (fun t=>!Tok.has f t)).flatMap (n.half f):=by
 by_cases hn:n.c.neg=true
 ·rw [←ext_neg_filter n hn]
  have:n.half f=n.ext:=by funext t; unfold Nd.half; rw [if_pos hn]
  rw [this]
 ·have hn2:n.c.neg=false:=by simpa using hn
  rw [filter_flatMap,←flatMap_not]
  congr 1
  funext t
  unfold Nd.half
  rw [if_neg hn]
  unfold Nd.ext Nd.less
  simp only [hn2,Bool.false_eq_true,if_false]
  rw [List.filter_map]
  by_cases ht:Tok.has f t=true
  ·rw [if_pos ht]
   simp only [List.map_eq_nil_iff,List.filter_eq_nil_iff]
   intro g _
   simp only [Function.comp_apply,Tok.has,List.any_append,Bool.not_eq_true']
   unfold Tok.has at ht
   rw [ht]
   simp
  ·rw [if_neg ht]
   have ht2:Tok.has f t=false:=by simpa using ht
   congr 1
   rw [List.filter_filter,List.filter_filter]
   congr 1
   funext g
   unfold Tok.has at ht2
   simp only [Function.comp_apply,Tok.has,List.any_append,ht2,Bool.false_or,List.any_cons,List.any_nil,Bool.or_false]
   rw [Bool.and_comm]
theorem HInv.of (f:Ft):∀ {B:List Tok} {ns:List Nd} {e:En},Inv B ns e→HInv f (B.filter (fun t=>!Tok.has f t)) (ns.map (Nd.drop (Tok.has f))) (e.drop (Tok.has f))
 | B,[],e,h=>List.Perm.filter _ h
 | B,n :: ns,e,h=>by
  refine ⟨h.1.filter _,?_⟩
  have:=HInv.of f h.2
  rw [half_filter] at this
  exact this
end Go.Proofs.YtolhbeekfjnfmaaGreatDoor
namespace Go.Proofs.YtolhbeekfjnfmaaGreatDoor
structure Hp.Ord {α:Type} (lt:α→α→Bool):Prop where
 asym:∀ a b,lt a b=true→lt b a=false
 trans:∀ a b c,lt b a=false→lt c b=false→lt c a=false
def Hp.From {α:Type} (lt:α→α→Bool) (n k:Nat) (l:List α):Prop:=∀ j,0 < j→j < n→k≤(j - 1) / 2→∀ a b,l[j]?=some a→l[(j - 1) / 2]?=some b→lt a b=false
theorem Hp.swap_get {α:Type} (l:List α) (i j k:Nat) (hi:i < l.length) (hj:j < l.length):(Hp.swap l i j)[k]?=if k=j then l[i]? else if k=i then l[j]? else l[k]?:=by
 unfold Hp.swap
 rw [List.getElem?_eq_getElem hi,List.getElem?_eq_getElem hj]
 simp only
 by_cases h1:k=j
 ·subst h1
  rw [if_pos rfl,List.getElem?_set_self (by simpa using hj)]
 ·rw [if_neg h1,List.getElem?_set_ne (by omega)]
  by_cases h2:k=i
  ·subst h2
   rw [if_pos rfl,List.getElem?_set_self hi]
  ·rw [if_neg h2,List.getElem?_set_ne (by omega)]
theorem Hp.swap_len {α:Type} (l:List α) (i j:Nat):(Hp.swap l i j).length=l.length:=(Hp.swap_perm l i j).length_eq
theorem Hp.lt_get {α:Type} {lt:α→α→Bool} {l:List α} {i j:Nat} {a b:α} (h1:l[i]?=some a) (h2:l[j]?=some b):Hp.lt lt l i j=lt a b:=by
 unfold Hp.lt
 rw [h1,h2]
theorem get_some {α:Type} {l:List α} {i:Nat} (h:i < l.length):∃ a,l[i]?=some a:=⟨l[i],List.getElem?_eq_getElem h⟩
theorem Hp.down_ok {α:Type} {lt:α→α→Bool} (ho:Hp.Ord lt) (n k:Nat):∀ (m:Nat) (l:List α) (i:Nat),n - i≤m→n≤l.length→k≤i→
  (∀ j,0 < j→j < n→k≤(j - 1) / 2→(j - 1) / 2≠i→∀ a b,l[j]?=some a→l[(j - 1) / 2]?=some b→lt a b=false)→
  (0 < i→k≤(i - 1) / 2→∀ j,0 < j→j < n→(j - 1) / 2=i→∀ a b,l[j]?=some a→l[(i - 1) / 2]?=some b→lt a b=false)→
  Hp.From lt n k (Hp.down lt n l i)
 | 0,l,i,hm,hn,hk,h1,h2=>by
  unfold Hp.down
  rw [dif_neg (by omega)]
  intro j a b c
  exact h1 j a b c (by omega)
 | m+1,l,i,hm,hn,hk,h1,h2=>by
  unfold Hp.down
  by_cases hi:2 * i+1 < n
  ·rw [dif_pos hi]
   have hc1:=Hp.kid_gt lt n l i
   have hc2:=Hp.kid_lt lt n l i hi
   obtain ⟨c,hc⟩:∃ c,Hp.kid lt n l i=c:=⟨_,rfl⟩
   have hcp:(c - 1) / 2=i∧0 < c:=by
    rw [←hc]
    unfold Hp.kid
    split<;>omega
   rw [hc] at hc1 hc2 ⊢
   obtain ⟨x,hx⟩:=get_some (l:=l) (i:=i) (by omega)
   obtain ⟨y,hy⟩:=get_some (l:=l) (i:=c) (by omega)
   have hoth:∀ d,0 < d→d < n→(d - 1) / 2=i→d≠c→∀ z,l[d]?=some z→lt z y=false:=by
    intro d hd0 hdn hdi hdc z hz
    unfold Hp.kid at hc
    by_cases hq:2 * i+2 < n∧Hp.lt lt l (2 * i+2) (2 * i+1)=true
    ·rw [if_pos hq] at hc
     have hd:d=2 * i+1:=by omega
     subst hd
     subst hc
     rw [Hp.lt_get hy hz] at hq
     exact ho.asym _ _ hq.2
    ·rw [if_neg hq] at hc
     have hd:d=2 * i+2:=by omega
     subst hd
     subst hc
     rw [Hp.lt_get hz hy] at hq
     have:¬ lt z y=true:=fun h=>hq ⟨hdn,h⟩
     simpa using this
   by_cases hl:Hp.lt lt l c i=true
   ·rw [if_pos hl]
    rw [Hp.lt_get hy hx] at hl
    have hg:=fun q=>Hp.swap_get l i c q (by omega) (by omega)
    refine Hp.down_ok ho n k m _ c (by omega) (by rw [Hp.swap_len]; exact hn) (by omega) ?_ ?_
    ·intro j hj0 hjn hjk hjc a b ha hb
     rw [hg] at ha hb
     rw [if_neg hjc] at hb
     by_cases e1:j=c
     ·subst e1
      rw [if_pos rfl,hx] at ha
      rw [if_pos hcp.1,hy] at hb
      cases ha
      cases hb
      exact ho.asym _ _ hl
     ·rw [if_neg e1] at ha
      by_cases e2:(j - 1) / 2=i
      ·rw [if_pos e2,hy] at hb
       cases hb
       rw [if_neg (by omega)] at ha
       exact hoth j hj0 hjn e2 e1 a ha
      ·rw [if_neg e2] at hb
       by_cases e3:j=i
       ·subst e3
        rw [if_pos rfl,hy] at ha
        cases ha
        exact h2 hj0 hjk c hcp.2 hc2 hcp.1 _ _ hy hb
       ·rw [if_neg e3] at ha
        exact h1 j hj0 hjn hjk e2 a b ha hb
    ·intro _ hck j hj0 hjn hjc a b ha hb
     rw [hg] at ha hb
     rw [if_neg (by omega),if_neg (by omega)] at ha
     rw [if_neg (by omega),if_pos hcp.1,hy] at hb
     cases hb
     exact h1 j hj0 hjn (by omega) (by omega) a y ha (by rw [hjc]; exact hy)
   ·rw [if_neg hl]
    rw [Hp.lt_get hy hx] at hl
    have hl2:lt y x=false:=by simpa using hl
    intro j hj0 hjn hjk a b ha hb
    by_cases e2:(j - 1) / 2=i
    ·rw [e2,hx] at hb
     cases hb
     by_cases e1:j=c
     ·subst e1
      rw [hy] at ha
      cases ha
      exact hl2
     ·exact ho.trans _ _ _ hl2 (hoth j hj0 hjn e2 e1 a ha)
    ·exact h1 j hj0 hjn hjk e2 a b ha hb
  ·rw [dif_neg hi]
   intro j hj0 hjn hjk a b ha hb
   exact h1 j hj0 hjn hjk (by omega) a b ha hb
theorem Hp.up_ok {α:Type} {lt:α→α→Bool} (ho:Hp.Ord lt) (l:List α) (i:Nat) (hi:i < l.length)
  (h1:∀ j,0 < j→j < l.length→j≠i→∀ a b,l[j]?=some a→l[(j - 1) / 2]?=some b→lt a b=false)
  (h2:0 < i→∀ j,0 < j→j < l.length→(j - 1) / 2=i→∀ a b,l[j]?=some a→l[(i - 1) / 2]?=some b→lt a b=false) :
  Hp.From lt l.length 0 (Hp.up lt l i):=by
 induction i using Nat.strongRecOn generalizing l with
 | _ i ih=>
  unfold Hp.up
  by_cases h0:i=0
  ·rw [dif_pos h0]
   intro j hj0 hjn _ a b ha hb
   exact h1 j hj0 hjn (by omega) a b ha hb
  ·rw [dif_neg h0]
   obtain ⟨p,hp⟩:∃ p,(i - 1) / 2=p:=⟨_,rfl⟩
   have hpi:p < i:=by omega
   rw [hp] at h2 ⊢
   obtain ⟨x,hx⟩:=get_some (l:=l) (i:=i) hi
   obtain ⟨y,hy⟩:=get_some (l:=l) (i:=p) (by omega)
   by_cases hl:Hp.lt lt l i p=true
   ·rw [if_pos hl]
    rw [Hp.lt_get hx hy] at hl
    have hg:=fun q=>Hp.swap_get l p i q (by omega) (by omega)
    have hlen:=Hp.swap_len l p i
    have:=ih p hpi (Hp.swap l p i) (by rw [hlen]; omega) ?_ ?_
    ·rw [hlen] at this; exact this
    ·intro j hj0 hjn hjp a b ha hb
     rw [hlen] at hjn
     rw [hg] at ha hb
     rw [if_neg hjp] at ha
     by_cases e1:j=i
     ·subst e1
      rw [if_pos rfl,hy] at ha
      rw [hp,if_neg (by omega),if_pos rfl,hx] at hb
      cases ha
      cases hb
      exact ho.asym _ _ hl
     ·rw [if_neg e1] at ha
      by_cases e2:(j - 1) / 2=i
      ·rw [if_pos e2,hy] at hb
       cases hb
       exact h2 (by omega) j hj0 hjn e2 a y ha hy
      ·rw [if_neg e2] at hb
       by_cases e3:(j - 1) / 2=p
       ·rw [if_pos e3,hx] at hb
        cases hb
        have k1:=h1 j hj0 hjn e1 a y ha (by rw [e3]; exact hy)
        exact ho.trans _ _ _ (ho.asym _ _ hl) k1
       ·rw [if_neg e3] at hb
        exact h1 j hj0 hjn e1 a b ha hb
    ·intro hp0 j hj0 hjn hjp a b ha hb
     rw [hlen] at hjn
     rw [hg] at ha hb
     rw [if_neg (by omega),if_neg (by omega)] at hb
     have kp:=h1 p hp0 (by omega) (by omega) y b hy hb
     by_cases e1:j=i
     ·subst e1
      rw [if_pos rfl,hy] at ha
      cases ha
      exact kp
     ·rw [if_neg e1,if_neg (by omega)] at ha
      have k1:=h1 j hj0 hjn e1 a y ha (by rw [hjp]; exact hy)
      exact ho.trans _ _ _ kp k1
   ·rw [if_neg hl]
    rw [Hp.lt_get hx hy] at hl
    intro j hj0 hjn _ a b ha hb
    by_cases e1:j=i
    ·subst e1
     rw [hx] at ha
     rw [hp,hy] at hb
     cases ha
     cases hb
     simpa using hl
    ·exact h1 j hj0 hjn e1 a b ha hb
def Hp.Is {α:Type} (lt:α→α→Bool) (l:List α):Prop:=Hp.From lt l.length 0 l
theorem Hp.push_ok {α:Type} {lt:α→α→Bool} (ho:Hp.Ord lt) {l:List α} (h:Hp.Is lt l) (t:α):Hp.Is lt (Hp.push lt l t):=by
 have e:(Hp.push lt l t).length=(l ++ [t]).length:=(Hp.up_perm lt _ _).length_eq
 unfold Hp.Is
 rw [e]
 refine Hp.up_ok ho (l ++ [t]) l.length (by simp) ?_ ?_
 ·intro j hj0 hjn hne a b ha hb
  have hj:j < l.length:=by simp at hjn; omega
  rw [List.getElem?_append_left hj] at ha
  rw [List.getElem?_append_left (by omega)] at hb
  exact h j hj0 hj (Nat.zero_le _) a b ha hb
 ·intro _ j hj0 hjn hjp a b ha hb
  simp at hjn
  omega
theorem Hp.fold_ok {α:Type} {lt:α→α→Bool} (ho:Hp.Ord lt):∀ (ts:List α) {l:List α},Hp.Is lt l→Hp.Is lt (ts.foldl (Hp.push lt) l)
 | [],_,h=>h
 | t :: ts,_,h=>Hp.fold_ok ho ts (Hp.push_ok ho h t)
theorem Hp.down_len {α:Type} (lt:α→α→Bool) (n:Nat) (l:List α) (i:Nat):(Hp.down lt n l i).length=l.length:=(Hp.down_perm lt n _ l i (Nat.le_refl _)).length_eq
theorem Hp.initF_ok {α:Type} {lt:α→α→Bool} (ho:Hp.Ord lt):∀ (i:Nat) (l:List α),Hp.From lt l.length i l→Hp.Is lt (Hp.initF lt i l)
 | 0,_,h=>h
 | i+1,l,h=>by
  unfold Hp.initF
  refine Hp.initF_ok ho i _ ?_
  rw [Hp.down_len]
  refine Hp.down_ok ho l.length i _ l i (Nat.le_refl _) (Nat.le_refl _) (Nat.le_refl _) ?_ ?_
  ·intro j hj0 hjn hjk hne a b ha hb
   exact h j hj0 hjn (by omega) a b ha hb
  ·intro h0 hk
   omega
theorem Hp.init_ok {α:Type} {lt:α→α→Bool} (ho:Hp.Ord lt) (l:List α):Hp.Is lt (Hp.init lt l):=by
 refine Hp.initF_ok ho _ l ?_
 intro j hj0 hjn hk
 omega
theorem Hp.first {α:Type} {lt:α→α→Bool} (ho:Hp.Ord lt) (hr:∀ a,lt a a=false) {l:List α} (h:Hp.Is lt l) {x:α} (hx:l[0]?=some x):∀ (j:Nat) (a:α),l[j]?=some a→lt a x=false:=by
 intro j
 induction j using Nat.strongRecOn with
 | _ j ih=>
  intro a ha
  by_cases h0:j=0
  ·subst h0
   rw [hx] at ha
   cases ha
   exact hr _
  ·have hj:=(List.getElem?_eq_some_iff.1 ha).1
   obtain ⟨b,hb⟩:=get_some (l:=l) (i:=(j - 1) / 2) (by omega)
   exact ho.trans _ _ _ (ih _ (by omega) b hb) (h j (by omega) hj (Nat.zero_le _) a b ha hb)
theorem cmpL_flip:∀ (a b:List Int),cmpL b a=- cmpL a b
 | [],[]=>rfl
 | [],_ :: _=>rfl
 | _ :: _,[]=>rfl
 | a :: x,b :: y=>by
  unfold cmpL
  have ih:=cmpL_flip x y
  by_cases h1:a < b
  ·rw [if_pos h1,if_neg (by omega),if_pos h1]; rfl
  ·by_cases h2:b < a
   ·rw [if_pos h2,if_neg h1,if_pos h2]
   ·rw [if_neg h1,if_neg h2,if_neg h2,if_neg h1]; exact ih
theorem cmpL_eq:∀ (a b:List Int),cmpL a b=0→a=b
 | [],[],_=>rfl
 | [],_ :: _,h=>by simp [cmpL] at h
 | _ :: _,[],h=>by simp [cmpL] at h
 | a :: x,b :: y,h=>by
  unfold cmpL at h
  split at h
  ·omega
  ·split at h
   ·omega
   ·rw [cmpL_eq x y h,show a=b from by omega]
theorem cmpL_self:∀ (a:List Int),cmpL a a=0
 | []=>rfl
 | a :: x=>by
  unfold cmpL
  rw [if_neg (by omega),if_neg (by omega)]
  exact cmpL_self x
theorem cmpL_trans:∀ (a b c:List Int),cmpL a b≤0→cmpL b c≤0→cmpL a c≤0
 | [],_,[],_,_=>by simp [cmpL]
 | [],_,_ :: _,_,_=>by simp [cmpL]
 | _ :: _,[],_,h,_=>by simp [cmpL] at h
 | _ :: _,_ :: _,[],_,h=>by simp [cmpL] at h
 | a :: x,b :: y,c :: z,h1,h2=>by
  unfold cmpL at h1 h2 ⊢
  by_cases k1:a < b
  ·by_cases k2:b < c
   ·rw [if_pos (by omega)]; omega
   ·rw [if_neg k2] at h2
    by_cases k3:c < b
    ·rw [if_pos k3] at h2; omega
    ·rw [if_pos (by omega)]; omega
  ·rw [if_neg k1] at h1
   by_cases k4:b < a
   ·rw [if_pos k4] at h1; omega
   ·rw [if_neg k4] at h1
    by_cases k2:b < c
    ·rw [if_pos (by omega)]; omega
    ·rw [if_neg k2] at h2
     by_cases k3:c < b
     ·rw [if_pos k3] at h2; omega
     ·rw [if_neg k3] at h2
      rw [if_neg (by omega),if_neg (by omega)]
      exact cmpL_trans x y z h1 h2
theorem Tok.less_iff (t u:Tok):Tok.less t u=true↔0 < cmpL t.age u.age∨(t.age=u.age∧cmpL t.nums u.nums < 0):=by
 unfold Tok.less
 by_cases h:cmpL t.age u.age=0
 ·rw [if_pos h]
  simp only [decide_eq_true_eq]
  constructor
  ·intro k; exact .inr ⟨cmpL_eq _ _ h,k⟩
  ·rintro (k | k)
   ·omega
   ·exact k.2
 ·rw [if_neg h]
  simp only [decide_eq_true_eq]
  constructor
  ·exact fun k=>.inl k
  ·rintro (k | k)
   ·exact k
   ·rw [k.1,cmpL_self] at h; exact absurd rfl h
theorem Tok.less_ord:Hp.Ord Tok.less where
 asym:=by
  intro a b h
  rw [Tok.less_iff] at h
  rw [←Bool.not_eq_true,Tok.less_iff]
  rintro (k | ⟨k1,k2⟩)
  ·rw [cmpL_flip] at k
   rcases h with h | ⟨h,_⟩
   ·omega
   ·rw [h,cmpL_self] at k; omega
  ·rw [cmpL_flip] at k2
   rcases h with h | ⟨h,h3⟩
   ·rw [k1,cmpL_self] at h; omega
   ·omega
 trans:=by
  intro a b c h1 h2
  rw [←Bool.not_eq_true,Tok.less_iff] at h1 h2 ⊢
  have e1:cmpL b.age a.age≤0:=by
   by_cases h:0 < cmpL b.age a.age
   ·exact absurd (.inl h) h1
   ·omega
  have e2:cmpL c.age b.age≤0:=by
   by_cases h:0 < cmpL c.age b.age
   ·exact absurd (.inl h) h2
   ·omega
  have e3:=cmpL_trans _ _ _ e2 e1
  rintro (k | ⟨k1,k2⟩)
  ·omega
  ·have e4:cmpL a.age b.age≤0:=by rw [←k1]; exact e2
   rw [cmpL_flip] at e4
   have e5:b.age=a.age:=cmpL_eq _ _ (by omega)
   have e6:c.age=b.age:=by rw [k1,e5]
   have f1:¬ cmpL b.nums a.nums < 0:=fun h=>h1 (.inr ⟨e5,h⟩)
   have f2:¬ cmpL c.nums b.nums < 0:=fun h=>h2 (.inr ⟨e6,h⟩)
   have g1:cmpL a.nums b.nums≤0:=by rw [cmpL_flip]; omega
   have g2:cmpL b.nums c.nums≤0:=by rw [cmpL_flip]; omega
   have:=cmpL_trans _ _ _ g1 g2
   rw [cmpL_flip] at this
   omega
end Go.Proofs.YtolhbeekfjnfmaaGreatDoor
namespace Go.Proofs.YtolhbeekfjnfmaaGreatDoor
theorem lexLt_cmp:∀ (a b:List Int),Sv.lexLt a b→cmpL a b < 0
 | [],[],h=>h.elim
 | [],_ :: _,_=>by simp [cmpL]
 | _ :: _,[],h=>h.elim
 | a :: x,b :: y,h=>by
  unfold cmpL
  rcases h with h | ⟨rfl,h⟩
  ·rw [if_pos h]; omega
  ·rw [if_neg (by omega),if_neg (by omega)]
   exact lexLt_cmp x y h
theorem sorted_eq {l k:List (List Int)} (hp:l.Perm k) (h1:l.Pairwise Sv.lexLt) (h2:k.Pairwise (fun a b=>cmpL a b≤0)):l=k:=by
 refine List.Perm.eq_of_pairwise (le:=fun a b=>cmpL a b≤0) ?_ ?_ h2 hp
 ·intro a b _ _ h1 h2
  rw [cmpL_flip] at h2
  exact cmpL_eq _ _ (by omega)
 ·exact h1.imp (fun {a b} h=>by have:=lexLt_cmp a b h; omega)
end Go.Proofs.YtolhbeekfjnfmaaGreatDoor

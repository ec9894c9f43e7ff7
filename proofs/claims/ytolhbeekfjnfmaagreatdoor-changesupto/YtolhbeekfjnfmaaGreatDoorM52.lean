import Derived.Test.YtolhbeekfjnfmaaGreatDoorM51
namespace Go.Proofs.YtolhbeekfjnfmaaGreatDoor
open Go.RowKit
theorem VTh.left_of(L:List VTh)(id:Int):(VTh.left L id).map VTh.of=(L.map VTh.of).filter (fun p=>!(p.1==id)):=by
 unfold VTh.left;rw[KC];rfl
theorem VTh.left_all(L:List VTh)(id:Int):(VTh.left L id).length=L.length↔(L.map VTh.of).any (fun p=>p.1==id)=false:=by
 unfold VTh.left;rw[List.length_filter_eq_length_iff,EI];simp only[CJ,forall_exists_index,and_imp,forall_apply_eq_imp_iff₂];constructor
 ·intro h t ht
  have:=h t ht;simpa[VTh.of] using this
 ·intro h t ht
  have:=h t ht;simpa[VTh.of] using this
theorem Yh(T:Nat->Nat)(t y:Nat)(s:Sv.St)(id:Int)(w:World)(ht:t≠0)(hy:YT T t y s w)(aK:Sv.StOk s) :
  Calls Tryz.prog 59 #[.pointer (some ⟨y,0,none⟩),.int .i64 id] w fun e w'=>e=.returned (.int .i64 (s.del id).1)/\GrS (fun k=>T k=t) w w'/\∃T',YT T' t y (s.del id).2 w'/\∀k,k<w.heap.size->T' k=T k:=by
 have yM:=hy;obtain⟨rv,lv,fv,L,fd,h1,h2,h3,h4,h5,h6,h7,h8,h9⟩:=hy;have jd:YAt y rv lv (.int .i64 s.cnt) fv s.rs L w:=⟨h1,h3.at,h4.1,fun th gC=>⟨(h5 th gC).1.1,(h5 th gC).2⟩⟩
 have ME:MsAt 0 fv fd w:=⟨h6.1,fun m hm=>(h7 m hm).1⟩
 have qd:L.length=s.L.length:=by rw[<-h8,BA]
 have br:fd.length=s.fired.length:=by rw[<-h9,BA]
 refine(Xy y rv lv _ fv s.rs L fd id w jd aK.rules (by have:=aK.facts;omega) ME (by have:=aK.fired;omega)).mono ?_;intro e w' hp;unfold Gm at hp;have fU:=VTh.left_all L id;rw[h8] at fU;unfold Sv.St.del;split at hp
 ·rename_i hq
  obtain⟨rfl,hg⟩:=hp;rw[AO (by rw[fU.1 hq];simp)];exact⟨rfl,GrS.of hg (by simp),T,yM.keep (GrS.of (S:=fun _=>False) hg (by simp)) (by simp) (fun _ _ _=>rfl),fun _ _=>rfl⟩
 ·rename_i hq
  obtain⟨rfl,hg,fF,af,iA,hY,hM,hmap,cg,hlv,fK⟩:=hp
  rw[AQ (by
   cases ha:s.L.any (fun p=>p.1==id)
   ·exact absurd (fU.2 ha) hq
   ·rfl)]
  have uP:GrS (fun k=>T k=t) w w':=GrS.of hg (fun g hg=>by simp at hg;subst hg;exact h2);obtain⟨T',bR⟩:∃T':Nat->Nat,∀k,T' k=if k<w.heap.size then T k else t:=⟨_,fun _=>rfl⟩
  have cq:∀k,k<w.heap.size->T' k=T k:=fun k hk=>by rw[bR,AQ hk]
  have sD:∀k,w.heap.size<=k->T' k=t:=fun k hk=>by rw[bR,AO (by omega)]
  have kF:(VTh.left L id).map VTh.of=s.L.filter (fun p=>!(p.1==id)):=by rw[VTh.left_of,h8]
  refine⟨rfl,uP,T',⟨rv,fF,af,VTh.left L id,iA,hY.blk,by rw[cq y (Ad h1)];exact h2,h3.keep uP (fun k hk=>by omega) (fun k hk hk2=>by rw[cq k hk];exact hk2),⟨hY.facts,fun g hg=>sD g (hlv g hg)⟩,fun x hx=>⟨⟨(hY.vals x hx).1,fun g hg=>?_⟩,(hY.vals x hx).2⟩,⟨hM.1,fun g hg=>sD g (fK g hg)⟩,fun m hm=>⟨hM.2 m hm,fun g hg=>?_⟩,kF,?_⟩,cq⟩
  ·have hx2:x∈L:=(BH.1 hx).1
   rw[cq g ((h5 x hx2).1.1.own g hg).2];exact(h5 x hx2).1.2 g hg
  ·have hmm:=cg m hm
   rw[cq g ((h7 m hmm).1.own g hg).2];exact(h7 m hmm).2 g hg
  ·rw[hmap,kF,h9]
theorem Q2x(T:Nat->Nat)(t y:Nat)(s:Sv.St)(w:World)(ht:t≠0)(hy:YT T t y s w)(aK:Sv.StG s) :
  Calls Tryz.prog 60 #[.pointer (some ⟨y,0,none⟩)] w fun e w'=>∃ao cap T',e=.returned (.tuple #[.agg #[.int .i64 s.fire.1.1.1,.slice ao s.fire.1.1.2.length cap],.int .i64 s.fire.1.2])/\GrS (fun k=>T k=t) w w'/\IsAt 0 (.slice ao s.fire.1.1.2.length cap) s.fire.1.1.2 w'/\YT T' t y s.fire.2 w'/\∀k,k<w.heap.size->T' k=T k:=by
 have yM:=hy;obtain⟨rv,lv,fv,L,fd,h1,h2,h3,h4,h5,h6,h7,h8,h9⟩:=hy;have jd:YAt y rv lv (.int .i64 s.cnt) fv s.rs L w:=⟨h1,h3.at,h4.1,fun th gC=>⟨(h5 th gC).1.1,(h5 th gC).2⟩⟩
 have ME:MsAt 0 fv fd w:=⟨h6.1,fun m hm=>(h7 m hm).1⟩
 have qd:L.length=s.L.length:=by rw[<-h8,BA]
 have br:fd.length=s.fired.length:=by rw[<-h9,BA]
 refine(Q2o y rv lv _ fv s.rs L fd w jd aK.ok.rules (by have:=aK.ok.facts;omega) ME (by have:=aK.ok.fired;omega) (by rw[h8];have:=aK.few;omega) (by rw[h8];exact aK.ids)).mono ?_;intro e w' hp;unfold F9 at hp;rw[h8,h9] at hp;have hwf:Hk s.fired (Al s.rs s.L)=Bw none (Fm s):=rfl;rw[hwf] at hp;unfold Sv.St.fire;cases hb:Bw none (Fm s) with
 | none=>
  rw[hb] at hp;obtain⟨rfl,hg⟩:=hp;exact⟨none,0,T,rfl,GrS.of hg (by simp),RowAt.nil _ _ At,yM.keep (GrS.of (S:=fun _=>False) hg (by simp)) (by simp) (fun _ _ _=>rfl),fun _ _=>rfl⟩
 | some m=>
  rw[hb] at hp;obtain⟨af,k,ao,cap,rfl,nH,rfl,hG,hY,hM,hkn,hfn⟩:=hp
  have uP:GrS (fun k=>T k=t) w w':=hG.mono (fun j hj=>by
   rcases hj with rfl|hj
   ·exact h2
   ·exact h6.2 j hj)
  obtain⟨T',bR⟩:∃T':Nat->Nat,∀k,T' k=if k<w.heap.size then T k else t:=⟨_,fun _=>rfl⟩
  have cq:∀k,k<w.heap.size->T' k=T k:=fun k hk=>by rw[bR,AQ hk]
  have sD:∀k,w.heap.size<=k->T' k=t:=fun k hk=>by rw[bR,AO (by omega)]
  have oX:=hM.2 k (AY.2 (.inr (AX.2 rfl)));refine⟨ao,cap,T',rfl,uP,by rw[nH] at oX;exact oX,⟨rv,lv,af,L,fd++[k],hY.blk,by rw[cq y (Ad h1)];exact h2,h3.keep uP (fun k hk=>by omega) (fun k hk hk2=>by rw[cq k hk];exact hk2),⟨hY.facts,fun g hg=>?_⟩,fun x hx=>⟨⟨(hY.vals x hx).1,fun g hg=>?_⟩,(hY.vals x hx).2⟩,⟨hM.1,fun g hg=>?_⟩,fun m hm=>⟨hM.2 m hm,fun g hg=>?_⟩,h8,?_⟩,cq⟩
  ·rw[cq g (h4.1.own g hg).2];exact h4.2 g hg
  ·rw[cq g ((h5 x hx).1.1.own g hg).2];exact(h5 x hx).1.2 g hg
  ·rcases hfn g hg with h|h
   ·rw[cq g (h6.1.own g h).2];exact h6.2 g h
   ·exact sD g h
  ·rcases AY.1 hm with h|h
   ·rw[cq g ((h7 m h).1.own g hg).2]
    exact(h7 m h).2 g hg
   ·rw[AX] at h
    subst h;exact sD g (hkn g hg)
  ·rw[CG,h9];rfl
end Go.Proofs.YtolhbeekfjnfmaaGreatDoor

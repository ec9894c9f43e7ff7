import Derived.BigQuiet
import Derived.Test.YtolhbeekfjnfmaaGreatDoorK32
import Derived.Test.YtolhbeekfjnfmaaGreatDoorK19
import Derived.Test.YtolhbeekfjnfmaaGreatDoorK15
import Derived.Test.YtolhbeekfjnfmaaGreatDoorK39
import Derived.Test.YtolhbeekfjnfmaaGreatDoorK06
import Derived.Test.YtolhbeekfjnfmaaGreatDoorK14
import Derived.Test.YtolhbeekfjnfmaaGreatDoorK20
namespace Go.Proofs.YtolhbeekfjnfmaaGreatDoor
open Go.RowKit
theorem popL_mem {l:List Tok} {n:Nat} {t:Tok} (h:t∈(Hp.popL Tok.less l).take n):t∈l:=by
 have hp:(Hp.popL Tok.less l).Perm l:=(Hp.down_perm Tok.less _ _ _ _ (Nat.le_refl _)).trans (Hp.swap_perm _ _ _)
 exact hp.mem_iff.1 (List.mem_of_mem_take h)
theorem LastAt.taken {U:Nat→Nat} {q lb ru jn:Nat} {e:En} {tv wv:Value} {w w':World} (h:LastAt U q lb ru jn e tv wv w) (hk:TakePost lb 1 wv #[tv,wv,.int .i64 ru,.int .i64 jn] 147 e.wait w w') :
  ∃ wv',LastAt U q lb ru jn ⟨e.toks,(Hp.popL Tok.less e.wait).take (e.wait.length - 1)⟩ tv wv' w'∧GrS (fun i=>U i=4+3 * q∨U i=6+3 * q) w w':=by
 obtain ⟨wv',k1,k2,k3,k4⟩:=hk
 have hsm:∀ i,(i=lb∨wv.ownBlock=some i)→U i=4+3 * q∨U i=6+3 * q:=by
  rintro i (rfl | hx)
  ·exact .inl h.own
  ·exact .inr (h.wait.2 i hx)
 have hG:=k3.mono hsm
 have h1:∀ i,U i=1→¬ (U i=4+3 * q∨U i=6+3 * q):=fun i hi hx=>by omega
 refine ⟨wv',⟨k1,h.own,h.toks.keep2 hG (fun i hi hx=>by omega) (fun _ _ e=>e),⟨k2,fun g hg=>h.wait.2 g (k4 g hg)⟩,fun t ht g hg=>(h.tfs t ht g hg).keep hG h1 (fun _ _ e=>e),fun t ht g hg=>(h.wfs t (popL_mem ht) g hg).keep hG h1 (fun _ _ e=>e),h.low⟩,hG⟩
theorem ChainAt.lastOf {U:Nat→Nat} {ru jn q b:Nat} {ns:List Nd} {e:En} {w:World} (h:ChainAt U ru jn q b ns e w):∃ lb tv wv,w.cell? ⟨b,2,none⟩=some (.pointer (some ⟨lb,0,none⟩))∧LastAt U (q+ns.length) lb ru jn e tv wv w:=by
 obtain ⟨nv,hd,hs',lb,m1,m2,m3,m4,m5,m6,m7⟩:=h.ex
 obtain ⟨b',tv,wv,k1,k2⟩:=m7.bkLast
 obtain rfl:=m6.uniq k1
 exact ⟨lb,tv,wv,by simp [World.cell?,m1],k2⟩
structure FireFit (c:Ch):Prop where
 heap:Hp.Is Tok.less c.e.wait
 len:∀ t∈c.e.wait,t.length=c.jn
 four:c.jn≤4
 few:c.e.wait.length≤1000000000
def FireSt (U:Nat→Nat) (chs:List Ch) (b:Option (Nat×Tok)) (fv:Value) (nt:Tok) (w:World):Prop:=
 match b with
 | none=>fv=.pointer none∧nt=[]
 | some (i,t)=>nt=t∧∃ c lb tv wv,chs[i]?=some c∧c.e.wait[0]?=some t∧fv=.pointer (some ⟨lb,0,none⟩)∧LastAt U (nextQ 0 (chs.take i)+c.ns.length) lb i c.jn c.e tv wv w
structure FireI (U:Nat→Nat) (chs:List Ch) (w:World) (j:Nat) (fv:Value) (nt:Tok) (p0 p1 p2 p3:Option Addr) (wr:World):Prop where
 gr:w.grownBy wr none
 res:wr.heap[w.heap.size]?=some (.cells #[.int .i64 0,.slice none 0 0] 52 (0,0))
 new:wr.heap[w.heap.size+1]?=some (.cells #[.pointer p0,.pointer p1,.pointer p2,.pointer p3] 139 (0,0))
 enc:tokEnc nt=[.pointer p0,.pointer p1,.pointer p2,.pointer p3]
 st:FireSt U chs (nextF none 0 (chs.take j)) fv nt w
theorem nextF_take {chs:List Ch} {j:Nat} {c:Ch} (h:chs[j]?=some c) (b:Option (Nat×Tok)):nextF b 0 (chs.take (j+1))=nextC (nextF b 0 (chs.take j)) j c:=by
 have hl:=(List.getElem?_eq_some_iff.1 h).1
 rw [List.take_add_one,h,nextF_app,List.length_take,Nat.min_eq_left (Nat.le_of_lt hl),Nat.zero_add]
 rfl
def FirePost (U:Nat→Nat) (b:Nat) (chs:List Ch) (w:World) (e:Ending) (w':World):Prop:=
 match nextF none 0 chs with
 | none=>e=.returned (.tuple #[.agg #[.int .i64 0,.slice none 0 0],.bool false])∧w.grownBy w' none
 | some (i,t)=>∃ ao cap c,e=.returned (.tuple #[.agg #[.int .i64 i,.slice ao t.length cap],.bool true])∧IsAt w.heap.size (.slice ao t.length cap) t.ids w'∧chs[i]?=some c∧c.e.wait[0]?=some t∧NetAt U b (chs.set i (fireCh c)) w'∧GrS (fun k=>4≤U k) w w'
theorem FireI.same {U:Nat→Nat} {chs:List Ch} {w:World} {j:Nat} {fv:Value} {nt:Tok} {p0 p1 p2 p3:Option Addr} {wr w':World} (h:FireI U chs w j fv nt p0 p1 p2 p3 wr) (hg:wr.grownBy w' none) (he:nextF none 0 (chs.take (j+1))=nextF none 0 (chs.take j)):FireI U chs w (j+1) fv nt p0 p1 p2 p3 w':=
 ⟨gr_trans h.gr hg,by rw [hg.block _ (row_lt h.res) (by simp)]; exact h.res,by rw [hg.block _ (row_lt h.new) (by simp)]; exact h.new,h.enc,by rw [he]; exact h.st⟩
theorem FireI.take {U:Nat→Nat} {chs:List Ch} {w:World} {j:Nat} {fv:Value} {nt:Tok} {p0 p1 p2 p3 q0 q1 q2 q3:Option Addr} {wr w':World} (h:FireI U chs w j fv nt p0 p1 p2 p3 wr) (hg:wr.grownBy w' (some (w.heap.size+1))) (hn:w'.heap[w.heap.size+1]?=some (.cells #[.pointer q0,.pointer q1,.pointer q2,.pointer q3] 139 (0,0))) {t:Tok} {c:Ch} {lb:Nat} {tv wv:Value} (hq:tokEnc t=[.pointer q0,.pointer q1,.pointer q2,.pointer q3]) (he:nextF none 0 (chs.take (j+1))=some (j,t)) (hc:chs[j]?=some c) (ht:c.e.wait[0]?=some t) (hl:LastAt U (nextQ 0 (chs.take j)+c.ns.length) lb j c.jn c.e tv wv w):FireI U chs w (j+1) (.pointer (some ⟨lb,0,none⟩)) t q0 q1 q2 q3 w':=
 ⟨gr_own h.gr hg (by omega),by rw [hg.block _ (row_lt h.res) (by simp)]; exact h.res,hn,hq,by rw [he]; exact ⟨rfl,c,lb,tv,wv,hc,ht,rfl,hl⟩⟩
theorem gone_ofB {S:Nat→Prop} {w w':World} (hg:w.grownBy w' none):GrS S w w':=GrS.of hg (by simp)
theorem fireEnd {U:Nat→Nat} {b i lb:Nat} {chs:List Ch} {c:Ch} {tv wv x y:Value} {w wr w1 w2:World} (hN:NetAt U b chs w) (h0:∀ k,w.heap.size≤k→U k=0) (hc:chs[i]?=some c) (hL:LastAt U (nextQ 0 (chs.take i)+c.ns.length) lb i c.jn c.e tv wv w) (hgr:w.grownBy wr none) (hT:TakePost lb 1 wv #[tv,wv,.int .i64 i,.int .i64 c.jn] 147 c.e.wait wr w1) (hg2:w1.grownBy w2 none) :
  NetAt U b (chs.set i (fireCh c)) ((w2.setCell ⟨w.heap.size,0,none⟩ x).setCell ⟨w.heap.size,1,none⟩ y)∧GrS (fun k=>4≤U k) w ((w2.setCell ⟨w.heap.size,0,none⟩ x).setCell ⟨w.heap.size,1,none⟩ y):=by
 obtain ⟨cv,bs,h1,h2,h3,h4⟩:=hN
 have hLr:LastAt U (nextQ 0 (chs.take i)+c.ns.length) lb i c.jn c.e tv wv wr:=hL.keep (gone_ofB hgr:GrS (fun _=>False) w wr) (by simp) (fun _ _ _=>rfl)
 obtain ⟨wv',hL1,hG1⟩:=hLr.taken hT
 have hg2F:w2.grownBy ((w2.setCell ⟨w.heap.size,0,none⟩ x).setCell ⟨w.heap.size,1,none⟩ y) (some w.heap.size):=gr_trans (gr_set _ _ _ _) (gr_set _ _ _ _)
 have hGF:GrS (fun k=>U k=4+3 * (nextQ 0 (chs.take i)+c.ns.length)∨U k=6+3 * (nextQ 0 (chs.take i)+c.ns.length)) w ((w2.setCell ⟨w.heap.size,0,none⟩ x).setCell ⟨w.heap.size,1,none⟩ y):=
  (((gone_ofB hgr:GrS _ w wr).trans hG1).then hg2 (by simp)).then hg2F (fun k hk=>by simp at hk; subst hk; exact .inl (Nat.le_refl _))
 have hLF:=hL1.keep ((gone_ofB hg2:GrS (fun k=>k=w.heap.size) w1 w2).then hg2F (fun k hk=>by simp at hk; exact .inr hk.symm)) (fun k hk e=>by have:=h0 k (by rw [e]; exact Nat.le_refl _); omega) (fun _ _ _=>rfl)
 obtain ⟨bi,hbi,hch⟩:=h4.get hc
 have hch2:=hch
 rw [Nat.zero_add] at hch2
 have hCF:=hch2.takes hL hLF hGF (fun _ h=>h)
 have hn1:∀ k,U k=1→¬ (U k=4+3 * (nextQ 0 (chs.take i)+c.ns.length)∨U k=6+3 * (nextQ 0 (chs.take i)+c.ns.length)):=fun k hk hx=>by omega
 refine ⟨⟨cv,bs,hGF.blk h1 (hn1 b h2),h2,h3.keep2 hGF hn1 (fun _ _ e=>e),?_⟩,hGF.mono (fun k hk=>by show 4≤U k; omega)⟩
 refine ChsAt.set (c':=fireCh c) (fun _ _=>rfl) h4 hc hbi rfl (hGF.mono (fun k hk=>by unfold Codes; omega)) ?_
 rw [Nat.zero_add]
 exact hCF
theorem set4_new {w:World} {g ty:Nat} {x0 x1 x2 x3 y0 y1 y2 y3:Value} (h:w.heap[g]?=some (.cells #[x0,x1,x2,x3] ty (0,0))):(set4 w g 0 y0 y1 y2 y3).heap[g]?=some (.cells #[y0,y1,y2,y3] ty (0,0)):=by
 unfold set4
 have h1:=heap_setCell_same w g 0 _ _ y0 h
 have h2:=heap_setCell_same _ g 1 _ _ y1 h1
 have h3:=heap_setCell_same _ g 2 _ _ y2 h2
 have h4:=heap_setCell_same _ g 3 _ _ y3 h3
 exact h4
theorem FireI.drew {U:Nat→Nat} {chs:List Ch} {w:World} {j:Nat} {fv:Value} {nt:Tok} {p0 p1 p2 p3:Option Addr} {wr:World} (h:FireI U chs w j fv nt p0 p1 p2 p3 wr):FireI U chs w j fv nt p0 p1 p2 p3 wr.drew:=
 ⟨gr_drew h.gr,blk_dr h.res,blk_dr h.new,h.enc,h.st⟩
set_option maxRecDepth 100000 in
set_option maxHeartbeats 8000000 in
theorem nFire_w (U:Nat→Nat) (b:Nat) (chs:List Ch) (w:World) (hN:NetAt U b chs w) (h0:∀ k,w.heap.size≤k→U k=0) (hfit:∀ c∈chs,FireFit c) :
  Calls Tryz.prog 48 #[.pointer (some ⟨b,0,none⟩)] w fun e w'=>FirePost U b chs w e w':=by
 have HN0:=hide hN
 obtain ⟨cv,bs,h1,h2,h3,h4⟩:=hN
 obtain ⟨ao,cap,rfl⟩:=h3.1.slice
 have hlm:=h3.1.le
 unfold maxLen at hlm
 have hln:=h4.len
 have c0:w.cell? ⟨b,0,none⟩=some (.slice ao bs.length cap):=by simp [World.cell?,h1]
 have hgA:=gr_al2 w (.cells #[.int .i64 0,.slice none 0 0] 52) (.cells #[.pointer none,.pointer none,.pointer none,.pointer none] 139)
 have c0A:=hgA.cell c0 (by simp)
 have hres:((w.alloc (.cells #[.int .i64 0,.slice none 0 0] 52)).alloc (.cells #[.pointer none,.pointer none,.pointer none,.pointer none] 139)).heap[w.heap.size]?=some (.cells #[.int .i64 0,.slice none 0 0] 52 (0,0)):=by
  have k1:=heap_alloc_new w (.cells #[.int .i64 0,.slice none 0 0] 52)
  have k2:=World.grownBy_alloc (w.alloc (.cells #[.int .i64 0,.slice none 0 0] 52)) (.cells #[.pointer none,.pointer none,.pointer none,.pointer none] 139) none
  rw [k2.block _ (row_lt k1) (by simp)]
  exact k1
 have hnew:((w.alloc (.cells #[.int .i64 0,.slice none 0 0] 52)).alloc (.cells #[.pointer none,.pointer none,.pointer none,.pointer none] 139)).heap[w.heap.size+1]?=some (.cells #[.pointer none,.pointer none,.pointer none,.pointer none] 139 (0,0)):=by
  have:=heap_alloc_new (w.alloc (.cells #[.int .i64 0,.slice none 0 0] 52)) (.cells #[.pointer none,.pointer none,.pointer none,.pointer none] 139)
  simpa using this
 have HI0:=hide (show FireI U chs w 0 (.pointer none) [] none none none none ((w.alloc (.cells #[.int .i64 0,.slice none 0 0] 52)).alloc (.cells #[.pointer none,.pointer none,.pointer none,.pointer none] 139)) from ⟨hgA,hres,hnew,rfl,rfl,rfl⟩)
 have HCH:=hide (fun (j:Nat) (hj:j < bs.length)=>show ∃ c bj g lb tv wv,chs[j]?=some c∧ao=some ⟨g,0,none⟩∧w.cell? ⟨g,j,none⟩=some (.pointer (some ⟨bj,0,none⟩))∧w.cell? ⟨bj,2,none⟩=some (.pointer (some ⟨lb,0,none⟩))∧w.cell? ⟨lb,1,none⟩=some wv∧LastAt U (nextQ 0 (chs.take j)+c.ns.length) lb j c.jn c.e tv wv w from by
  have hlc:j < chs.length:=by rw [←hln]; exact hj
  obtain ⟨c,hc⟩:∃ c,chs[j]?=some c:=⟨_,List.getElem?_eq_getElem hlc⟩
  obtain ⟨bj,hbj,hch⟩:=h4.get hc
  obtain ⟨g,cap',e1,c1⟩:=PsAt.cell h3.1 hbj
  simp only [Value.slice.injEq,true_and] at e1
  rw [Nat.zero_add] at hch
  obtain ⟨lb,tv,wv,k1,k2⟩:=hch.lastOf
  exact ⟨c,bj,g,lb,tv,wv,hc,e1.1,c1,k1,by simp [World.cell?,k2.blk],k2⟩)
 have HFIT:=hide hfit
 have HLN:=hide hln
 clear h1 h2 h3 h4 hfit hln c0 hres hnew hgA
 go_enter Tryz.func48,Tryz.ntmps48
 go_wp2
 clear c0A
 go_loopw [4,15] (fun fx z w'=>∃ (fv:Value) (j:Nat) (nt:Tok) (p0 p1 p2 p3:Option Addr),fx=fv∧j≤bs.length∧z=.int .i64 j∧Hid (FireI U chs w j fv nt p0 p1 p2 p3 w')) (fun _ z _=>bs.length - (intOf z).toNat)
 case atStart=>exact ⟨_,0,_,_,_,_,_,rfl,Nat.zero_le _,rfl,HI0⟩
 case round=>
  clear HI0
  obtain ⟨fv,j,nt,p0,p1,p2,p3,hfv,hj,rfl,HK⟩:=hrel
  replace hfv:=hfv.symm
  subst hfv
  by_cases hlt:j < bs.length
  ·have hd:decide (j < bs.length)=true:=by simpa using hlt
   obtain ⟨c,bj,g,lb,tv,wv,hc,rfl,a0,a1,a2,hL⟩:=unhide HCH j hlt
   have hgr:=(unhide HK).gr
   have a0':=hgr.cell a0 (by simp)
   have a1':=hgr.cell a1 (by simp)
   have a2':=hgr.cell a2 (by simp)
   have hst:=nextF_take hc none
   have HL:=hide hL
   cases hw:c.e.wait[0]? with
   | none=>
    have hwe:c.e.wait=[]:=by
     cases hl:c.e.wait with
     | nil=>rfl
     | cons x l=>rw [hl] at hw; simp at hw
    obtain ⟨wo,wc,hwv⟩:=hL.wait.1.slice
    rw [hwe,List.length_nil] at hwv
    subst hwv
    have hnx:=next_none lb 1 wo wc wr a2'
    unfold nextC at hst
    rw [hw] at hst
    simp only at hst
    have HST:=hide hst
    clear hL hwe hw hst a0 a1 a2 hgr hc
    go_wp2_with fail
    refine hnx.mono ?_
    rintro e w1 ⟨rfl,hg1⟩
    have HK2:=hide ((unhide HK).same (gr_trans hg1 (World.grownBy_alloc w1 (.cells #[.pointer none,.pointer none,.pointer none,.pointer none] 139) none)) (unhide HST))
    clear hnx hg1 a0' a1' a2'
    go_wp2
    go_roundw
    case rel=>exact ⟨_,j+1,_,_,_,_,_,rfl,by omega,by go_num,HK2⟩
    case measure=>simp [intOf]; omega
   | some t=>
    obtain ⟨q0,q1,q2,q3,hq⟩:=tok_four t
    have eT:tokV t=.agg #[.pointer q0,.pointer q1,.pointer q2,.pointer q3]:=by unfold tokV; rw [hq]
    have hfc:=unhide HFIT c (List.mem_of_getElem? hc)
    have htw:t∈c.e.wait:=List.mem_of_getElem? hw
    have ht4:t.length≤4:=by rw [hfc.len t htw]; exact hfc.four
    obtain ⟨gw,capw,hwv⟩:=ToksAt.lies hL.wait.1 (List.length_pos_of_mem htw)
    subst hwv
    have hnx:=next_some lb 1 gw capw c.e.wait t wr a2' (hL.wait.1.gr hgr) hw
    rw [eT] at hnx
    unfold nextC at hst
    rw [hw] at hst
    simp only at hst
    have hft:∀ g∈t,FtAt U g w:=hL.wfs t htw
    have HX:=hide (show _∧_∧_∧_ from ⟨hc,hw,hq,hft⟩)
    have HST:=hide hst
    have HET:=hide eT
    clear hL hst a0 a1 a2 hgr hfc htw hft hc hw hq eT
    go_wp2_with fail
    refine hnx.mono ?_
    rintro e w1 ⟨rfl,hg1⟩
    have hgx:wr.grownBy (w1.alloc (.cells #[.pointer q0,.pointer q1,.pointer q2,.pointer q3] 139)) none:=gr_trans hg1 (World.grownBy_alloc w1 _ none)
    have hbx:=hgx.cell a1' (by simp)
    have HF:=hide (fun (w3:World) (hg3:(w1.alloc (.cells #[.pointer q0,.pointer q1,.pointer q2,.pointer q3] 139)).grownBy w3 none)=>show (w3.cell? ⟨bj,2,none⟩=some (.pointer (some ⟨lb,0,none⟩))∧(w3.cell? ⟨w1.heap.size,0,none⟩=some (.pointer q0)∧w3.cell? ⟨w1.heap.size,1,none⟩=some (.pointer q1)∧w3.cell? ⟨w1.heap.size,2,none⟩=some (.pointer q2)∧w3.cell? ⟨w1.heap.size,3,none⟩=some (.pointer q3))∧(w3.cell? ⟨w.heap.size+1,0,none⟩=some (.pointer p0)∧w3.cell? ⟨w.heap.size+1,1,none⟩=some (.pointer p1)∧w3.cell? ⟨w.heap.size+1,2,none⟩=some (.pointer p2)∧w3.cell? ⟨w.heap.size+1,3,none⟩=some (.pointer p3))∧∀ k,w3.frozen? ⟨w.heap.size+1,k,none⟩=false)∧(nextF none 0 (chs.take (j+1))=some (j,t)→FireI U chs w (j+1) (.pointer (some ⟨lb,0,none⟩)) t q0 q1 q2 q3 (set4 w3 (w.heap.size+1) 0 (.pointer q0) (.pointer q1) (.pointer q2) (.pointer q3)).drew)∧(nextF none 0 (chs.take (j+1))=nextF none 0 (chs.take j)→FireI U chs w (j+1) fv nt p0 p1 p2 p3 w3)∧w.grownBy w3 none from by
     have hg:=gr_trans hgx hg3
     have hn2:w3.heap[w.heap.size+1]?=some (.cells #[.pointer p0,.pointer p1,.pointer p2,.pointer p3] 139 (0,0)):=by rw [hg.block _ (row_lt (unhide HK).new) (by simp)]; exact (unhide HK).new
     have hx2:w3.heap[w1.heap.size]?=some (.cells #[.pointer q0,.pointer q1,.pointer q2,.pointer q3] 139 (0,0)):=by
      have k:=heap_alloc_new w1 (.cells #[.pointer q0,.pointer q1,.pointer q2,.pointer q3] 139)
      rw [hg3.block _ (row_lt k) (by simp)]
      exact k
     refine ⟨⟨hg3.cell hbx (by simp),⟨cell_of hx2 rfl,cell_of hx2 rfl,cell_of hx2 rfl,cell_of hx2 rfl⟩,⟨cell_of hn2 rfl,cell_of hn2 rfl,cell_of hn2 rfl,cell_of hn2 rfl⟩,fun k=>by simp [World.frozen?,hn2]⟩,fun he=>?_,fun he=>(unhide HK).same hg he,gr_trans (unhide HK).gr hg⟩
     exact ((unhide HK).take (gr_trans (gr_any hg _) (gr_set4 _ _ _ _ _ _ _)) (set4_new hn2) (unhide HX).2.2.1 he (unhide HX).1 (unhide HX).2.1 (unhide HL)).drew)
    clear hnx a0' a1' a2' hgx hg1 hbx
    cases hb:nextF none 0 (chs.take j) with
    | none=>
     have hst0:=(unhide HK).st
     rw [hb] at hst0
     obtain ⟨rfl,rfl⟩:=hst0
     have HN2:=unhide HST
     rw [hb] at HN2
     simp only at HN2
     obtain ⟨⟨y1,_,⟨n0,n1,n2,n3⟩,nf⟩,hTK,_,_⟩:=unhide HF _ (World.grownBy.refl _ none)
     have HK2:=hide (hTK HN2)
     clear hb hTK HN2
     go_wp2_with fail
     go_region
     all_goals
      go_wp2_with fail
      go_roundw
      case rel=>exact ⟨_,j+1,_,_,_,_,_,rfl,by omega,by go_num,HK2⟩
      case measure=>simp [intOf]; omega
    | some pr=>
     obtain ⟨i,u⟩:=pr
     have hst0:=(unhide HK).st
     rw [hb] at hst0
     obtain ⟨rfl,c',lb',tv',wv',hc',hw',rfl,hL'⟩:=hst0
     have eU:tokV nt=.agg #[.pointer p0,.pointer p1,.pointer p2,.pointer p3]:=by unfold tokV; rw [(unhide HK).enc]
     have HN2:=unhide HST
     rw [hb] at HN2
     simp only at HN2
     have hfc':=unhide HFIT c' (List.mem_of_getElem? hc')
     have hmw:=List.mem_of_getElem? hw'
     have hu4:nt.length≤4:=by rw [hfc'.len nt hmw]; exact hfc'.four
     obtain ⟨⟨y1,⟨m0,m1,m2,m3⟩,⟨n0,n1,n2,n3⟩,nf⟩,_,_,hgw⟩:=unhide HF _ (World.grownBy.refl _ none)
     have hA:=ages_w U t nt (w1.alloc (.cells #[.pointer q0,.pointer q1,.pointer q2,.pointer q3] 139)) ht4 hu4 (fun g hg=>((unhide HX).2.2.2 g hg).gr hgw) (fun g hg=>(hL'.wfs nt hmw g hg).gr hgw)
     rw [unhide HET,eU] at hA
     obtain ⟨r,hr⟩:∃ r,cmpL t.age nt.age=r:=⟨_,rfl⟩
     rw [hr] at hA HN2
     have HB:=hide hb
     have HNN:=hide HN2
     clear hb HN2 hr hL' hfc' hc' hw' hmw eU hgw
     go_wp2_with fail
     refine hA.mono ?_
     rintro e w3 ⟨rfl,hg3⟩
     obtain ⟨⟨z1,⟨r0,r1,r2,r3⟩,⟨s0,s1,s2,s3⟩,sf⟩,hTK,hSM,_⟩:=unhide HF w3 hg3
     have hNN:=unhide HNN
     clear hA hg3 y1 m0 m1 m2 m3 n0 n1 n2 n3 nf HNN
     by_cases hr0:0 < r
     ·have hd2:decide (0 < r)=true:=by simpa using hr0
      rw [if_pos hr0] at hNN
      have HK2:=hide (hTK hNN)
      clear hTK hSM hNN
      go_wp2_with fail
      go_region
      all_goals
       go_wp2_with fail
       go_roundw
       case rel=>exact ⟨_,j+1,_,_,_,_,_,rfl,by omega,by go_num,HK2⟩
       case measure=>simp [intOf]; omega
     ·have hd2:decide (0 < r)=false:=by simpa using hr0
      rw [if_neg hr0] at hNN
      have HK2:=hide (hSM (hNN.trans (unhide HB).symm))
      clear hTK hSM hNN
      go_wp2_with fail
      go_roundw
      case rel=>exact ⟨_,j+1,_,_,_,_,_,rfl,by omega,by go_num,HK2⟩
      case measure=>simp [intOf]; omega
  ·have hd:decide (j < bs.length)=false:=by simpa using hlt
   have hje:chs.take j=chs:=List.take_of_length_le (by have:=unhide HLN; omega)
   have hI:=unhide HK
   have hst0:=hI.st
   rw [hje] at hst0
   have r0:=cell_of hI.res (k:=0) rfl
   have r1:=cell_of hI.res (k:=1) rfl
   have rf:∀ k,wr.frozen? ⟨w.heap.size,k,none⟩=false:=fun k=>by simp [World.frozen?,hI.res]
   cases hb:nextF none 0 chs with
   | none=>
    rw [hb] at hst0
    obtain ⟨rfl,rfl⟩:=hst0
    have hRb:C2 52 w.heap.size (.int .i64 0) (.slice none 0 0) wr:=hI.res
    obtain ⟨z0,z1⟩:=(hRb.set2 (.int .i64 0) (.slice none 0 0)).c
    have HG:=hide (gr_own hI.gr (gr_set2 wr w.heap.size (.int .i64 0) (.slice none 0 0)) (Nat.le_refl _))
    have HBB:=hide hb
    clear hI HCH HFIT HLN HN0 hRb hje hb
    go_wp2_with fail
    exact bodyPost_ret (v:=.tuple #[.agg #[.int .i64 0,.slice none 0 0],.bool false]) (by simp [results,Tryz.results48,go_sem,z0,z1]) rfl (by unfold FirePost; rw [unhide HBB]; exact ⟨rfl,unhide HG⟩)
   | some pr=>
    obtain ⟨i,t⟩:=pr
    rw [hb] at hst0
    obtain ⟨rfl,c,lb,tv,wv,hc,hw,rfl,hL⟩:=hst0
    have hfc:=unhide HFIT c (List.mem_of_getElem? hc)
    have htw:nt∈c.e.wait:=List.mem_of_getElem? hw
    obtain ⟨gw,capw,hwv⟩:=ToksAt.lies hL.wait.1 (List.length_pos_of_mem htw)
    subst hwv
    have hLr:LastAt U (nextQ 0 (chs.take i)+c.ns.length) lb i c.jn c.e tv (.slice (some ⟨gw,0,none⟩) c.e.wait.length capw) wr:=hL.keep (gone_ofB hI.gr:GrS (fun _=>False) w wr) (by simp) (fun _ _ _=>rfl)
    have hlb:=row_lt hL.blk
    have hgw:gw < w.heap.size:=(hL.wait.1.own gw rfl).2
    have hUg:U gw=6+3 * (nextQ 0 (chs.take i)+c.ns.length):=hL.wait.2 gw rfl
    obtain ⟨n,hn⟩:∃ n,c.e.wait.length=n+1:=⟨c.e.wait.length - 1,by have:=List.length_pos_of_mem htw; omega⟩
    have hAg:AgAt U lb 1 gw capw c.e.wait wr:=⟨by simp [World.cell?,hLr.blk],fun e=>by have:=hL.own; rw [e] at this; omega,hLr.wait.1,by omega,fun y hy=>⟨by rw [hfc.len y hy]; exact hfc.four,hLr.wfs y hy⟩⟩
    have hTk:=take_w U lb 1 gw capw n #[tv,.slice (some ⟨gw,0,none⟩) c.e.wait.length capw,.int .i64 i,.int .i64 c.jn] 147 c.e.wait nt wr hAg hLr.blk rfl hn (by have:=hfc.few; omega) hfc.heap hw
    have eT:tokV nt=.agg #[.pointer p0,.pointer p1,.pointer p2,.pointer p3]:=by unfold tokV; rw [hI.enc]
    have hkey:∀ w1,TakePost lb 1 (.slice (some ⟨gw,0,none⟩) c.e.wait.length capw) #[tv,.slice (some ⟨gw,0,none⟩) c.e.wait.length capw,.int .i64 i,.int .i64 c.jn] 147 c.e.wait wr w1→(w1.cell? ⟨w.heap.size+1,0,none⟩=some (.pointer p0)∧w1.cell? ⟨w.heap.size+1,1,none⟩=some (.pointer p1)∧w1.cell? ⟨w.heap.size+1,2,none⟩=some (.pointer p2)∧w1.cell? ⟨w.heap.size+1,3,none⟩=some (.pointer p3))∧
      Calls Tryz.prog 75 #[.pointer (some ⟨lb,0,none⟩),.agg #[.pointer p0,.pointer p1,.pointer p2,.pointer p3]] w1 fun e w2=>∃ ao2 cap2,e=.returned (.agg #[.int .i64 i,.slice ao2 nt.length cap2])∧(C2 52 w.heap.size (.int .i64 0) (.slice none 0 0) w2)∧IsAt w.heap.size (.slice ao2 nt.length cap2) nt.ids ((w2.setCell ⟨w.heap.size,0,none⟩ (.int .i64 i)).setCell ⟨w.heap.size,1,none⟩ (.slice ao2 nt.length cap2))∧NetAt U b (chs.set i (fireCh c)) ((w2.setCell ⟨w.heap.size,0,none⟩ (.int .i64 i)).setCell ⟨w.heap.size,1,none⟩ (.slice ao2 nt.length cap2))∧GrS (fun k=>4≤U k) w ((w2.setCell ⟨w.heap.size,0,none⟩ (.int .i64 i)).setCell ⟨w.heap.size,1,none⟩ (.slice ao2 nt.length cap2)):=by
     intro w1 hT
     obtain ⟨wv',hL1,hG1⟩:=hLr.taken hT
     obtain ⟨_,_,_,k3,_⟩:=id hT
     have hne:∀ k,w.heap.size≤k→¬ (k=lb∨(Value.slice (some ⟨gw,0,none⟩) c.e.wait.length capw).ownBlock=some k):=by
      rintro k hk (e | e)
      ·omega
      ·simp only [Value.ownBlock,Option.some.injEq] at e; omega
     have hn1:w1.heap[w.heap.size+1]?=_:=k3.blk hI.new (hne _ (by omega))
     have hr1:w1.heap[w.heap.size]?=_:=k3.blk hI.res (hne _ (Nat.le_refl _))
     refine ⟨⟨cell_of hn1 rfl,cell_of hn1 rfl,cell_of hn1 rfl,cell_of hn1 rfl⟩,?_⟩
     have hM:=match_w U lb i c.jn nt w1 (by simp [World.cell?,hL1.blk]) (by simp [World.cell?,hL1.blk]) (hfc.len nt htw) hfc.four (fun g hg=>(hLr.wfs nt htw g hg).keep hG1 (fun k hk hx=>by omega) (fun _ _ e=>e))
     rw [eT] at hM
     refine hM.mono ?_
     rintro e w2 ⟨ao2,cap2,rfl,hg2,hv2⟩
     have hlen:=hfc.len nt htw
     rw [←hlen] at hv2 ⊢
     obtain ⟨hN,hG⟩:=fireEnd (x:=.int .i64 i) (y:=.slice ao2 nt.length cap2) (unhide HN0) h0 hc hL hI.gr hT hg2
     have hr2:=(hg2.block w.heap.size (row_lt hr1) (by simp)).trans hr1
     have hsz:w.heap.size < w1.heap.size:=row_lt hr1
     have hv3:=hv2.other (gr_set2 w2 w.heap.size (.int .i64 i) (.slice ao2 nt.length cap2)) (fun g hg e=>by have:=(hv2.own g hg).1; simp at e; omega)
     exact ⟨ao2,cap2,rfl,hr2,hv3.weak (by omega),hN,hG⟩
    have HKEY:=hide hkey
    have HCW:=hide (show _∧_ from ⟨hc,hw⟩)
    have HBB:=hide hb
    clear hkey hLr hAg hI hL hfc htw HN0 HFIT HCH HLN hje hb hUg hgw hlb eT hc hw r0 r1 rf HK
    go_wp2_with fail
    refine hTk.mono ?_
    rintro e w1 ⟨rfl,hT⟩
    obtain ⟨⟨y0,y1,y2,y3⟩,hM⟩:=unhide HKEY w1 hT
    clear hTk HKEY hT
    go_wp2_with fail
    refine hM.mono ?_
    rintro e w2 ⟨ao2,cap2,rfl,hRb,hv,hN,hG⟩
    obtain ⟨x0,x1⟩:=hRb.c
    have xf:∀ k,w2.frozen? ⟨w.heap.size,k,none⟩=false:=fun k=>by have hRb':w2.heap[w.heap.size]?=_:=hRb; simp [World.frozen?,hRb']
    obtain ⟨z0,z1⟩:=(hRb.set2 (.int .i64 i) (.slice ao2 nt.length cap2)).c
    have HF:=hide (show _∧_∧_ from ⟨hv,hN,hG⟩)
    clear hM hv hN hG hRb y0 y1 y2 y3
    go_wp2_with fail
    exact bodyPost_ret (v:=.tuple #[.agg #[.int .i64 i,.slice ao2 nt.length cap2],.bool true]) (by simp [results,Tryz.results48,go_sem,z0,z1]) rfl (by unfold FirePost; rw [unhide HBB]; exact ⟨ao2,cap2,c,rfl,(unhide HF).1,(unhide HCW).1,(unhide HCW).2,(unhide HF).2⟩)
end Go.Proofs.YtolhbeekfjnfmaaGreatDoor
namespace Go.Proofs.YtolhbeekfjnfmaaGreatDoor
open Go.RowKit
theorem idxP_mem (a:Option Addr):∀ (l:List (Option Addr)) (k:Nat),0≤idxP a k l↔a∈l
 | [],k=>by unfold idxP; simp
 | p :: l,k=>by
  unfold idxP
  by_cases h:a=p
  ·rw [if_pos h]
   exact ⟨fun _=>by rw [h]; exact List.mem_cons_self ..,fun _=>by omega⟩
  ·rw [if_neg h,idxP_mem a l (k+1)]
   exact ⟨fun h2=>List.mem_cons_of_mem _ h2,fun h2=>by rcases List.mem_cons.1 h2 with h3 | h3; exact absurd h3 h; exact h3⟩
theorem tokEnc_mem {t:Tok} (v:Value):v∈tokEnc t→v=.pointer none∨∃ g∈t,v=fptr g:=by
 unfold tokEnc
 intro hv
 rcases List.mem_append.1 (List.mem_of_mem_take hv) with h | h
 ·obtain ⟨g,hg,rfl⟩:=List.mem_map.1 h
  exact .inr ⟨g,hg,rfl⟩
 ·exact .inl (List.eq_of_mem_replicate h)
theorem tokEnc_has {t:Tok} (h4:t.length≤4) {g:Ft} (hg:g∈t):fptr g∈tokEnc t:=by
 obtain ⟨i,hi,he⟩:=List.getElem_of_mem hg
 exact List.mem_of_getElem? (tokEnc_get (i:=i) (by rw [←he]; exact List.getElem?_eq_getElem hi) (by omega))
theorem has_idx {t:Tok} {p0 p1 p2 p3:Option Addr} (h4:t.length≤4) (hp:tokEnc t=[.pointer p0,.pointer p1,.pointer p2,.pointer p3]) (f:Ft):decide (0≤idxP (some ⟨f.blk,0,none⟩) 0 [p0,p1,p2,p3])=Tok.has f t:=by
 have hm:∀ p,p∈[p0,p1,p2,p3]↔Value.pointer p∈tokEnc t:=by
  intro p
  rw [hp]
  simp
 rw [Bool.eq_iff_iff,decide_eq_true_eq,idxP_mem,hm]
 unfold Tok.has
 rw [List.any_eq_true]
 constructor
 ·intro h
  rcases tokEnc_mem _ h with h | ⟨g,hg,he⟩
  ·cases h
  ·refine ⟨g,hg,?_⟩
   unfold fptr at he
   simp only [Value.pointer.injEq,Option.some.injEq,Addr.mk.injEq,and_true] at he
   simp [he]
 ·rintro ⟨g,hg,he⟩
  have:=tokEnc_has h4 hg
  unfold fptr at this
  rw [show g.blk=f.blk by simpa using he] at this
  exact this
set_option maxRecDepth 100000 in
set_option maxHeartbeats 2000000 in
theorem remove1_w (U:Nat→Nat) (x:Nat) (f:Ft) (t:Tok) (w:World) (hx:w.cell? ⟨x,0,none⟩=some (.pointer (some ⟨f.blk,0,none⟩))) (hf:FtAt U f w) (h4:t.length≤4) (ht:∀ g∈t,FtAt U g w) :
  Calls Tryz.prog 105 #[tokV t,.pointer (some ⟨x,0,none⟩)] w fun e w'=>e=.returned (.bool (Tok.has f t))∧w.grownBy w' none:=by
 obtain ⟨p0,p1,p2,p3,hp⟩:=tok_four t
 have eT:tokV t=.agg #[.pointer p0,.pointer p1,.pointer p2,.pointer p3]:=by unfold tokV; rw [hp]
 have hgA:=World.grownBy_alloc w (.cells #[.pointer p0,.pointer p1,.pointer p2,.pointer p3] 139) none
 have hnb:(w.alloc (.cells #[.pointer p0,.pointer p1,.pointer p2,.pointer p3] 139)).heap[w.heap.size]?=some (.cells #[.pointer p0,.pointer p1,.pointer p2,.pointer p3] 139 (0,0)):=heap_alloc_new _ _
 have hS:∀ wx,(w.alloc (.cells #[.pointer p0,.pointer p1,.pointer p2,.pointer p3] 139)).grownBy wx none→Calls Tryz.prog 106 #[.slice (some ⟨w.heap.size,0,none⟩) 4 4,.pointer (some ⟨f.blk,0,none⟩)] wx fun e w'=>e=.returned (.bool (Tok.has f t))∧w'=wx:=by
  intro wx hg
  have hgg:=gr_trans hgA hg
  have hnx:wx.heap[w.heap.size]?=some (.cells #[.pointer p0,.pointer p1,.pointer p2,.pointer p3] 139 (0,0)):=by rw [hg.block _ (row_lt hnb) (by simp)]; exact hnb
  have:=sHas_w f.blk (some ⟨w.heap.size,0,none⟩) [p0,p1,p2,p3] 4 wx (hf.gr hgg).isBlk ⟨by unfold maxLen; simp,fun i p hi=>⟨⟨w.heap.size,rfl,cell_of hnx (by
   have:(#[Value.pointer p0,.pointer p1,.pointer p2,.pointer p3])[i]?=([p0,p1,p2,p3][i]?).map Value.pointer:=by
    rw [←List.getElem?_map,←List.getElem?_toArray]
    rfl
   rw [this,hi]
   rfl)⟩,?_⟩⟩
  ·rw [has_idx h4 hp f] at this
   exact this
  ·have hm:Value.pointer p∈tokEnc t:=by
    rw [hp]
    have:=List.mem_of_getElem? hi
    simpa using this
   rcases tokEnc_mem _ hm with h | ⟨g,hg',he⟩
   ·left
    simpa using h
   ·right
    unfold fptr at he
    exact ⟨g.blk,by simpa using he,((ht g hg').gr hgg).isBlk⟩
 have hx2:=hgA.cell hx (by simp)
 rw [eT]
 have HGA:=hide hgA
 obtain ⟨r,hr⟩:∃ r,Tok.has f t=r:=⟨_,rfl⟩
 rw [hr] at hS ⊢
 clear hp eT hgA hnb hf ht hr
 go_enter Tryz.func105,Tryz.ntmps105
 go_wp2_with fail
 first
  | go_region_with (go_at_call 106; refine (hS _ (by repeat (first | assumption | exact World.grownBy.refl _ _ | apply gr_drew))).mono ?_; rintro e1 w1 ⟨rfl,hw1⟩; subst w1)
  | fail
 all_goals
  go_wp2
  go_ret
  exact ⟨rfl,gr_trans (unhide HGA) (by repeat (first | assumption | exact World.grownBy.refl _ _ | apply gr_drew))⟩
end Go.Proofs.YtolhbeekfjnfmaaGreatDoor
namespace Go.Proofs.YtolhbeekfjnfmaaGreatDoor
def delAt (f:Ft):Nat→List Nd→En→List Nd×En
 | _,[],e=>([],e)
 | 0,n :: ns,e=>((delStep f n ns e).1 :: (delStep f n ns e).2.1,(delStep f n ns e).2.2)
 | p+1,n :: ns,e=>(n :: (delAt f p ns e).1,(delAt f p ns e).2)
def delFrom (f:Ft):Nat→List Nd→En→List Nd×En
 | 0,ns,e=>delAll f ns e
 | _+1,[],e=>([],e)
 | j+1,n :: ns,e=>(n :: (delFrom f j ns e).1,(delFrom f j ns e).2)
theorem delFrom_none (f:Ft):∀ (ns:List Nd) (e:En),delFrom f ns.length ns e=(ns,e)
 | [],e=>by simp [delFrom,delAll]
 | n :: ns,e=>by
  show delFrom f (ns.length+1) (n :: ns) e=(n :: ns,e)
  unfold delFrom
  rw [delFrom_none f ns e]
theorem delFrom_step (f:Ft):∀ (j:Nat) (ns:List Nd) (e:En),j < ns.length→delFrom f j ns e=delAt f j (delFrom f (j+1) ns e).1 (delFrom f (j+1) ns e).2
 | _,[],_,h=>by simp at h
 | 0,n :: ns,e,_=>by simp [delFrom,delAll,delAt]
 | j+1,n :: ns,e,h=>by
  have ih:=delFrom_step f j ns e (by simpa using h)
  rw [delFrom,ih]
  simp only [delFrom,delAt]
theorem delStep_len (f:Ft) (n:Nd) (ns:List Nd) (e:En):(delStep f n ns e).2.1.length=ns.length:=by
 unfold delStep
 split
 ·split
  ·exact arrives_len _ _ _ _
  ·rfl
 ·rfl
theorem delAll_len (f:Ft):∀ (ns:List Nd) (e:En),(delAll f ns e).1.length=ns.length
 | [],_=>rfl
 | n :: ns,e=>by unfold delAll; simp [delStep_len,delAll_len f ns e]
theorem delFrom_len (f:Ft):∀ (j:Nat) (ns:List Nd) (e:En),(delFrom f j ns e).1.length=ns.length
 | 0,ns,e=>by unfold delFrom; exact delAll_len f ns e
 | _+1,[],_=>by unfold delFrom; rfl
 | j+1,n :: ns,e=>by unfold delFrom; simp [delFrom_len f j ns e]
theorem delFrom_get (f:Ft):∀ (j:Nat) (ns:List Nd) (e:En) (n:Nd),ns[j]?=some n→(delFrom f (j+1) ns e).1[j]?=some n
 | _,[],_,_,h=>by simp at h
 | 0,m :: ns,e,n,h=>by simp [delFrom]; simpa using h
 | j+1,m :: ns,e,n,h=>by
  rw [delFrom]
  simpa using delFrom_get f j ns e n (by simpa using h)
theorem Bd.delStep {κ c:Nat} {n:Nd} {ns:List Nd} {e:En} {f:Ft} (hk:κ≤20) (h:Bd κ c (n :: ns) e):Bd κ (2 * c) ((delStep f n ns e).1 :: (delStep f n ns e).2.1) (delStep f n ns e).2.2:=by
 obtain ⟨h1,h2,h3⟩:=h
 unfold Go.Proofs.YtolhbeekfjnfmaaGreatDoor.delStep
 split
 ·refine ⟨by show (n.K.filter _).length≤_; exact Nat.le_trans (List.length_filter_le _ _) h1,by show n.toks.length≤_; omega,?_⟩
  split
  ·have:=Bd.arr hk h3 (ts:=n.toks.filter (fun t=>fitL n.links t f.f && !(n.less f).K.any (fun g=>fitL n.links t g.f))) (t:=c) (Nat.le_trans (List.length_filter_le _ _) h2)
   exact this.mono (Nat.le_refl _) (by omega)
  ·exact h3.mono (Nat.le_refl _) (by omega)
 ·exact ⟨h1,by show n.toks.length≤_; omega,h3.mono (Nat.le_refl _) (by omega)⟩
theorem Bd.delAt {κ:Nat} {f:Ft} (hk:κ≤20):∀ (p:Nat) {ns:List Nd} {c:Nat} {e:En},Bd κ c ns e→Bd κ (2 * c) (delAt f p ns e).1 (delAt f p ns e).2
 | _,[],_,e,h=>by unfold Go.Proofs.YtolhbeekfjnfmaaGreatDoor.delAt; exact ⟨by show e.toks.length≤_; have:=h.1; omega,by show e.wait.length≤_; have:=h.2; omega⟩
 | 0,n :: ns,c,e,h=>by unfold Go.Proofs.YtolhbeekfjnfmaaGreatDoor.delAt; exact h.delStep hk
 | p+1,n :: ns,c,e,h=>by
  unfold Go.Proofs.YtolhbeekfjnfmaaGreatDoor.delAt
  have ih:=Bd.delAt (f:=f) hk p h.2.2
  exact ⟨h.1,by have:=h.2.1; omega,by rw [Nat.mul_assoc]; exact ih⟩
end Go.Proofs.YtolhbeekfjnfmaaGreatDoor
namespace Go.Proofs.YtolhbeekfjnfmaaGreatDoor
open Go.RowKit
theorem WF.delStep {A:List Nat} {n:Nd} {ns:List Nd} {e:En} {f:Ft} (h:WF A (n :: ns)) (he:EndOk A (n :: ns) e) :
  WF A ((delStep f n ns e).1 :: (delStep f n ns e).2.1)∧EndOk A ((delStep f n ns e).1 :: (delStep f n ns e).2.1) (delStep f n ns e).2.2:=by
 unfold Go.Proofs.YtolhbeekfjnfmaaGreatDoor.delStep
 by_cases hf:n.K.any (fun g=>g.blk == f.blk)=true
 ·rw [if_pos hf]
  obtain ⟨h1,h2,h3,h4,h5⟩:=h
  have hK:∀ g∈(n.less f).K,g.f.vals.length=n.c.terms.length:=fun g hg=>h3 g (List.mem_filter.1 hg).1
  by_cases hn:n.c.neg=true
  ·rw [if_pos hn]
   have ht:∀ u∈n.toks.filter (fun t=>fitL n.links t f.f && !(n.less f).K.any (fun g=>fitL n.links t g.f)),HasAr (if n.c.neg=true then A else A ++ [n.c.terms.length]) u:=by
    intro u hu
    rw [if_pos hn]
    exact h4 u (List.mem_filter.1 hu).1
   exact ⟨⟨h1,h2,hK,h4,h5.arr ht⟩,EndOk.arr (ns:=ns) h5 he ht⟩
  ·rw [if_neg hn]
   exact ⟨⟨h1,h2,hK,h4,h5⟩,he⟩
 ·rw [if_neg hf]
  exact ⟨h,he⟩
theorem WF.delAt {f:Ft}:∀ (p:Nat) {A:List Nat} {ns:List Nd} {e:En},WF A ns→EndOk A ns e→WF A (delAt f p ns e).1∧EndOk A (delAt f p ns e).1 (delAt f p ns e).2
 | _,_,[],_,h,he=>by unfold Go.Proofs.YtolhbeekfjnfmaaGreatDoor.delAt; exact ⟨h,he⟩
 | 0,_,n :: ns,e,h,he=>by unfold Go.Proofs.YtolhbeekfjnfmaaGreatDoor.delAt; exact h.delStep he
 | p+1,A,n :: ns,e,h,he=>by
  unfold Go.Proofs.YtolhbeekfjnfmaaGreatDoor.delAt
  obtain ⟨i1,i2⟩:=WF.delAt (f:=f) p (ns:=ns) (e:=e) h.2.2.2.2 he
  exact ⟨⟨h.1,h.2.1,h.2.2.1,h.2.2.2.1,i1⟩,i2⟩
def delFn (neg:Bool):Nat:=if neg=true then 108 else 107
theorem delAt_w (ru jn:Nat) (U:Nat→Nat) (f:Ft) (w:World) (hf:FtAt U f w):∀ (p:Nat) (A:List Nat) (q b κ c:Nat) (n:Nd) (ns:List Nd) (e:En) (hd:Value),ns[p]?=some n→Bk U (4+3 * (q+p)) b→SufAt U ru jn q A.length ns e hd w→WF A ns→EndOk A ns e→Bd κ c ns e→κ≤20→ns.length≤4→2 * c * 20 ^ ns.length≤1000000000→OneBlk n.K→(∀ g∈n.K,g.blk=f.blk→g.f=f.f)→
  Calls Tryz.prog (delFn n.c.neg) #[.pointer (some ⟨b,0,none⟩),fptr f] w fun e' w'=>(e'=.returned (if n.c.neg=true then .tuple #[] else .bool (n.K.any (fun g=>g.blk == f.blk))))∧AtPost U ru jn q A.length (delAt f p ns e) ns.length hd w w'
 | _,_,_,_,_,_,_,[],_,_,hn,_,_,_,_,_,_,_,_,_,_=>by simp at hn
 | 0,A,q,b,κ,c,n,n0 :: ns,e,hd,hn,hb,h,hW,hE,hB,hk,hl,hc,ho,hs=>by
  simp only [List.getElem?_cons_zero,Option.some.injEq] at hn
  subst hn
  have h0:=h
  obtain ⟨b',nx,tv,lv,ov,fv,h1,h2,h3⟩:=h
  have:b'=b:=Bk.uniq ⟨h2.own,h2.low⟩ hb
  subst this
  subst h1
  have hS:=(hB.delStep (f:=f) hk).small (by rw [List.length_cons,delStep_len,←List.length_cons (a:=n0)]; exact hl) (by rw [List.length_cons,delStep_len,←List.length_cons (a:=n0)]; exact hc)
  cases hng:n0.c.neg with
  | true=>
   have hpt:ndPTy n0.c.neg=209:=by rw [hng]; rfl
   rw [hpt] at h0
   have:=release_w ru jn U A q b' n0 ns e f w hng h0 hW hf (hE.four hW) ho hs hS.tail
   unfold delFn
   rw [if_pos rfl]
   refine this.mono ?_
   rintro e' w' ⟨rfl,U',a1,a2,a3⟩
   refine ⟨by rw [if_pos rfl],U',?_,a2.mono (fun i hi=>?_),a3⟩
   ·unfold delAt ndPTy
    rw [if_pos rfl]
    exact a1
   ·unfold Codes
    rw [List.length_cons]
    omega
  | false=>
   have hne1:fv.ownBlock≠some b':=fun hx=>by have:=h2.facts.2 b' hx; have:=h2.own; omega
   unfold delFn
   rw [if_neg (by simp)]
   by_cases hany:n0.K.any (fun g=>g.blk == f.blk)=true
   ·refine (dismiss_yes U b' fv (ndCells n0 A.length tv lv ov fv nx) (ndTy n0.c.neg) n0.K f w h2.blk ndCells_get.2.1 h2.facts.1 hne1 h2.fts hf ho hany).mono ?_
    rintro e' w' ⟨rfl,hp⟩
    obtain ⟨fv',a1,a2⟩:=dismissNode h2 hp
    refine ⟨by rw [if_neg (by simp),hany],U,?_,a2.mono (fun i hi=>by unfold Codes; rw [List.length_cons]; omega),fun _ _=>rfl⟩
    have e1:delAt f 0 (n0 :: ns) e=(n0.less f :: ns,e):=by
     unfold delAt delStep
     rw [if_pos hany,if_neg (by simp [hng])]
    rw [e1]
    exact ⟨b',nx,tv,lv,ov,fv',by rw [show (n0.less f).c.neg=false from hng],a1,h3.keep a2 (fun i hi hx=>by omega) (fun _ _ _=>rfl)⟩
   ·have hany':n0.K.any (fun g=>g.blk == f.blk)=false:=by simpa using hany
    refine (dismiss_no U b' fv (ndCells n0 A.length tv lv ov fv nx) (ndTy n0.c.neg) n0.K f w h2.blk ndCells_get.2.1 h2.facts.1 h2.fts hf hany').mono ?_
    rintro e' w' ⟨rfl,hw⟩
    subst hw
    have e1:delAt f 0 (n0 :: ns) e=(n0 :: ns,e):=by
     unfold delAt delStep
     rw [if_neg hany]
    refine ⟨by rw [if_neg (by simp),hany'],U,?_,GrS.of (World.grownBy.refl w' none) (by simp),fun _ _=>rfl⟩
    rw [e1]
    rw [hng] at h0
    exact h0
 | p+1,A,q,b,κ,c,n,n0 :: ns,e,hd,hn,hb,h,hW,hE,hB,hk,hl,hc,ho,hs=>by
  obtain ⟨b',nx,tv,lv,ov,fv,h1,h2,h3⟩:=h
  have hA:(if n0.c.neg=true then A.length else A.length+1)=(if n0.c.neg=true then A else A ++ [n0.c.terms.length]).length:=by split<;>simp
  rw [hA] at h3
  rw [List.length_cons] at hl hc
  rw [Nat.pow_succ,Nat.mul_comm (20 ^ _) 20,←Nat.mul_assoc,Nat.mul_assoc 2 c 20] at hc
  refine (delAt_w ru jn U f w hf p (if n0.c.neg=true then A else A ++ [n0.c.terms.length]) (q+1) b κ (c * 20) n ns e nx (by simpa using hn) (by rw [show q+1+p=q+(p+1) by omega]; exact hb) h3 hW.2.2.2.2 hE hB.2.2 hk (by omega) hc ho hs).mono ?_
  rintro e' w' ⟨he,U',a1,a2,a3⟩
  refine ⟨he,U',?_,a2.mono (fun i hi=>?_),a3⟩
  ·unfold delAt
   refine ⟨b',nx,tv,lv,ov,fv,h1,h2.keep a2 (fun i hi hx=>by unfold Codes at hx; omega) (fun i hi _=>a3 i hi),?_⟩
   rw [hA]
   exact a1
  ·unfold Codes at hi ⊢
   rw [List.length_cons]
   omega
end Go.Proofs.YtolhbeekfjnfmaaGreatDoor
namespace Go.Proofs.YtolhbeekfjnfmaaGreatDoor
open Go.RowKit
theorem delFrom_inv {f:Ft} {A:List Nat} {κ:Nat} {ns:List Nd} {e:En} (hk:κ≤20) (hW:WF A ns) (hE:EndOk A ns e) (hB:Bd κ 1 ns e):∀ i,i≤ns.length→
  WF A (delFrom f (ns.length - i) ns e).1∧EndOk A (delFrom f (ns.length - i) ns e).1 (delFrom f (ns.length - i) ns e).2∧Bd κ (2 ^ i) (delFrom f (ns.length - i) ns e).1 (delFrom f (ns.length - i) ns e).2
 | 0,_=>by
  rw [Nat.sub_zero,delFrom_none]
  exact ⟨hW,hE,hB⟩
 | i+1,hi=>by
  obtain ⟨h1,h2,h3⟩:=delFrom_inv (f:=f) hk hW hE hB i (by omega)
  rw [delFrom_step f (ns.length - (i+1)) ns e (by omega),show ns.length - (i+1)+1=ns.length - i by omega]
  obtain ⟨k1,k2⟩:=WF.delAt (f:=f) (ns.length - (i+1)) h1 h2
  refine ⟨k1,k2,?_⟩
  rw [Nat.pow_succ,Nat.mul_comm]
  exact Bd.delAt hk _ h3
theorem delFrom_w (ru jn:Nat) (U:Nat→Nat) (f:Ft) (w:World) (hf:FtAt U f w) (A:List Nat) (q b κ i:Nat) (n:Nd) (ns:List Nd) (e:En) (hd:Value) (hi:i < ns.length) (hn:ns[ns.length - 1 - i]?=some n) (hb:Bk U (4+3 * (q+(ns.length - 1 - i))) b)
  (h:SufAt U ru jn q A.length (delFrom f (ns.length - i) ns e).1 (delFrom f (ns.length - i) ns e).2 hd w) (hW:WF A ns) (hE:EndOk A ns e) (hB:Bd κ 1 ns e) (hk:κ≤20) (hl:ns.length≤4) (ho:OneBlk n.K) (hs:∀ g∈n.K,g.blk=f.blk→g.f=f.f) :
  Calls Tryz.prog (delFn n.c.neg) #[.pointer (some ⟨b,0,none⟩),fptr f] w fun e' w'=>(e'=.returned (if n.c.neg=true then .tuple #[] else .bool (n.K.any (fun g=>g.blk == f.blk))))∧AtPost U ru jn q A.length (delFrom f (ns.length - (i+1)) ns e) ns.length hd w w':=by
 obtain ⟨h1,h2,h3⟩:=delFrom_inv (f:=f) hk hW hE hB i (by omega)
 have hlen:=delFrom_len f (ns.length - i) ns e
 have hget:(delFrom f (ns.length - i) ns e).1[ns.length - 1 - i]?=some n:=by
  have:=delFrom_get f (ns.length - 1 - i) ns e n hn
  rw [show ns.length - 1 - i+1=ns.length - i by omega] at this
  exact this
 have hc:2 * 2 ^ i * 20 ^ (delFrom f (ns.length - i) ns e).1.length≤1000000000:=by
  rw [hlen]
  have a1:2 ^ i≤2 ^ 4:=Nat.pow_le_pow_right (by omega) (by omega)
  have a2:20 ^ ns.length≤20 ^ 4:=Nat.pow_le_pow_right (by omega) hl
  have a3:2 * 2 ^ i * 20 ^ ns.length≤2 * 2 ^ 4 * 20 ^ 4:=Nat.mul_le_mul (Nat.mul_le_mul_left _ a1) a2
  omega
 have:=delAt_w ru jn U f w hf (ns.length - 1 - i) A q b κ (2 ^ i) n (delFrom f (ns.length - i) ns e).1 (delFrom f (ns.length - i) ns e).2 hd hget hb h h1 h2 h3 hk (by rw [hlen]; exact hl) hc ho hs
 rw [hlen] at this
 have e1:=delFrom_step f (ns.length - (i+1)) ns e (by omega)
 rw [show ns.length - (i+1)+1=ns.length - i by omega] at e1
 rw [e1,show ns.length - (i+1)=ns.length - 1 - i by omega]
 exact this
end Go.Proofs.YtolhbeekfjnfmaaGreatDoor
namespace Go.Proofs.YtolhbeekfjnfmaaGreatDoor
open Go.RowKit
theorem Tryz.entersR:∀ args w,(callFunc 105 args).run Tryz.prog w=.ok (.enter 105 args) w:=enters_of Tryz.func105 (by kernel_rfl) rfl
theorem delStep_c (f:Ft) (n:Nd) (ns:List Nd) (e:En):(delStep f n ns e).1.c=n.c:=by
 unfold delStep
 split<;>rfl
theorem delAll_negs (f:Ft):∀ (ns:List Nd) (e:En),negs (delAll f ns e).1=negs ns
 | [],_=>rfl
 | n :: ns,e=>by
  have h1:negs (delStep f n (delAll f ns e).1 (delAll f ns e).2).2.1=negs (delAll f ns e).1:=negs_of_same (delStep_same f n (delAll f ns e).1 (delAll f ns e).2)
  have h2:=delAll_negs f ns e
  unfold delAll
  show (delStep f n (delAll f ns e).1 (delAll f ns e).2).1.c.neg :: negs (delStep f n (delAll f ns e).1 (delAll f ns e).2).2.1=n.c.neg :: negs ns
  rw [h1,h2,delStep_c]
theorem delC_negs (f:Ft) (ns:List Nd) (e:En):negs (delC f ns e).1=negs ns:=by
 unfold delC
 rw [delAll_negs]
 unfold negs
 rw [List.map_map]
 rfl
set_option maxRecDepth 100000 in
set_option maxHeartbeats 4000000 in
theorem cremove_w (ru jn:Nat) (U:Nat→Nat) (q b:Nat) (ns:List Nd) (e:En) (f:Ft) (w:World) (hC:ChainAt U ru jn q b ns e w) (hW:WF [] ns) (hE:EndOk [] ns e) (hB:Bd 16 1 ns e) (hl:ns.length≤4) (hf:FtAt U f w) (ho:∀ n∈ns,OneBlk n.K∧∀ g∈n.K,g.blk=f.blk→g.f=f.f) :
  Calls Tryz.prog 71 #[.pointer (some ⟨b,0,none⟩),fptr f] w fun e' w'=>e'=.returned (.tuple #[])∧∃ U',ChainAt U' ru jn q b (delC f ns e).1 (delC f ns e).2 w'∧GrS (Codes U q ns.length) w w'∧∀ i,i < w.heap.size→U' i=U i:=by
 obtain ⟨nv,hd,hs,lb,c1,c2,c3,c4,c5,c6,c7⟩:=hC.ex
 obtain ⟨ao,cap,hnv⟩:=c3.1.slice
 have hrl:hs.reverse.length=ns.length:=by rw [List.length_reverse]; exact c4.1
 rw [hrl] at hnv
 subst hnv
 clear hC
 have hwl:e.wait.length≤1000000000:=(hB.small hl (by have:20 ^ ns.length≤20 ^ 4:=Nat.pow_le_pow_right (by omega) hl; omega)).2.2
 have hgA:=World.grownBy_alloc w (.cells #[.pointer (some ⟨f.blk,0,none⟩)] 90) none
 have hx1:(w.alloc (.cells #[.pointer (some ⟨f.blk,0,none⟩)] 90)).heap[w.heap.size]?=some (.cells #[.pointer (some ⟨f.blk,0,none⟩)] 90 (0,0)):=heap_alloc_new _ _
 have d0:(w.alloc (.cells #[.pointer (some ⟨f.blk,0,none⟩)] 90)).cell? ⟨b,0,none⟩=some (.slice ao ns.length cap):=hgA.cell (by simp [World.cell?,c1]) (by simp)
 have d1:(w.alloc (.cells #[.pointer (some ⟨f.blk,0,none⟩)] 90)).cell? ⟨b,1,none⟩=some hd:=hgA.cell (by simp [World.cell?,c1]) (by simp)
 have hs0:SufAt (newU U w 0) ru jn q 0 ns e hd (w.alloc (.cells #[.pointer (some ⟨f.blk,0,none⟩)] 90)):=c7.keep (S:=fun _=>False) (GrS.of hgA (by simp)) (by simp) (fun i hi _=>newU_old hi)
 have hfF:FtAt (newU U w 0) f (w.alloc (.cells #[.pointer (some ⟨f.blk,0,none⟩)] 90)):=hf.keep (S:=fun _=>False) (GrS.of hgA (by simp)) (by simp) (fun i hi h=>by rw [newU_old hi]; exact h)
 have hcon:∀ wx t,GrS (Codes (newU U w 0) q ns.length) (w.alloc (.cells #[.pointer (some ⟨f.blk,0,none⟩)] 90)) wx→Begins [] t→(∀ g∈t,FtAt (newU U w 0) g wx)→Calls Tryz.prog 105 #[tokV t,.pointer (some ⟨w.heap.size,0,none⟩)] wx fun e w'=>e=.returned (.bool (Tok.has f t))∧wx.grownBy w' none:=by
  intro wx t hg hBt hft
  have y1:=hg.blk hx1 (by unfold Codes; rw [newU_new (Nat.le_refl _)]; omega)
  exact remove1_w (newU U w 0) w.heap.size f t wx (cell_of y1 rfl) (hfF.codes hg) (by obtain ⟨_,_,h⟩:=hBt; exact h) hft
 have hF:∀ b2 ty,hd=.iface ty (.pointer (some ⟨b2,0,none⟩))→Calls Tryz.prog (fgFn ns) #[.pointer (some ⟨b2,0,none⟩),(.func (.func 105) #[] #[.pointer (some ⟨w.heap.size,0,none⟩)])] (w.alloc (.cells #[.pointer (some ⟨f.blk,0,none⟩)] 90)) fun e' w'=>e'=.returned (.tuple #[])∧SufAt (newU U w 0) ru jn q 0 (ns.map (Nd.drop (Tok.has f))) (e.drop (Tok.has f)) hd w'∧GrS (Codes (newU U w 0) q ns.length) (w.alloc (.cells #[.pointer (some ⟨f.blk,0,none⟩)] 90)) w':=by
  rintro b2 ty rfl
  exact forS1_w (newU U w 0) ru jn 105 (.pointer (some ⟨w.heap.size,0,none⟩)) (Tok.has f) (Begins []) Tryz.entersR (fun t ht=>by obtain ⟨_,_,h⟩:=ht; exact h) ns q 0 b2 ty e _ hs0 (wf_all hW hE) hwl hcon
 obtain ⟨ty2,fn2,b2,hhd,hfn2,hent,hmt⟩:∃ ty2 fn2 b2,hd=.iface ty2 (.pointer (some ⟨b2,0,none⟩))∧fgFn ns=fn2∧(∀ args w,(callFunc fn2 args).run Tryz.prog w=.ok (.enter fn2 args) w)∧∀ (c:Nat) (w:World),(Go.method 482 ty2 (.pointer (some ⟨c,0,none⟩)) "sieve/nodes.forget").run Tryz.prog w=.ok (fn2,.pointer (some ⟨c,0,none⟩)) w:=by
  rcases c7.head with ⟨b2,h,hns⟩ | ⟨b2,n2,ns2,h,hns,hng⟩ | ⟨b2,n2,ns2,h,hns,hng⟩
  ·exact ⟨_,_,b2,h,by rw [hns]; rfl,enters_of Tryz.func241 (by kernel_rfl) rfl,fun c w=>Tryz.mForL _ w⟩
  ·exact ⟨_,_,b2,h,by rw [hns]; rfl,enters_of Tryz.func256 (by kernel_rfl) rfl,Tryz.mForH⟩
  ·exact ⟨_,_,b2,h,by rw [hns]; rfl,enters_of Tryz.func256 (by kernel_rfl) rfl,Tryz.mForJ⟩
 have hF':=hF b2 ty2 hhd
 rw [hfn2] at hF'
 subst hhd
 clear hF hfn2
 have HP:=hide (show _∧_∧_∧_∧_∧_∧_∧_∧_∧_ from ⟨c1,c2,c3,c4,c5,c6,c7,hgA,hx1,hfF⟩)
 have HQ:=hide (show _∧_∧_∧_∧_∧_ from ⟨hW,hE,hB,hl,ho,hrl⟩)
 unfold fptr
 clear c1 c2 c3 c4 c5 c6 c7 hgA hx1 hfF hW hE hB hl ho hrl hs0 hcon hf hwl
 go_enter Tryz.func71,Tryz.ntmps71
 go_wp2_with fail
 refine hF'.mono ?_
 rintro e2 w5 ⟨rfl,s1,s2⟩
 have d5:w5.cell? ⟨b,0,none⟩=some (.slice ao ns.length cap):=by
  obtain ⟨k1,k2,_,_,_,_,_,k8,_⟩:=unhide HP
  have hbA:=(k8.block b (row_lt k1) (by simp)).trans k1
  exact cell_of (s2.blk hbA (by unfold Codes; rw [newU_old (row_lt k1),k2]; omega)) rfl
 have hln:ns.length≤4:=(unhide HQ).2.2.2.1
 have HS:=hide (show _∧_ from ⟨s1,s2⟩)
 clear hF' s1 s2 d0 d1
 go_wp2
 clear d5
 go_loopw [19] (fun x w'=>∃ i:Nat,i≤ns.length∧x=.int .i64 i∧Hid (∃ Ux,SufAt Ux ru jn q 0 (delFrom f (ns.length - i) (ns.map (Nd.drop (Tok.has f))) (e.drop (Tok.has f))).1 (delFrom f (ns.length - i) (ns.map (Nd.drop (Tok.has f))) (e.drop (Tok.has f))).2 (.iface ty2 (.pointer (some ⟨b2,0,none⟩))) w'∧GrS (Codes (newU U w 0) q ns.length) (w.alloc (.cells #[.pointer (some ⟨f.blk,0,none⟩)] 90)) w'∧(∀ k,k < (w.alloc (.cells #[.pointer (some ⟨f.blk,0,none⟩)] 90)).heap.size→Ux k=newU U w 0 k))) (fun x _=>ns.length - (intOf x).toNat)
 case atStart=>
  refine ⟨0,Nat.zero_le _,rfl,hide ⟨newU U w 0,?_,(unhide HS).2,fun _ _=>rfl⟩⟩
  have:=delFrom_none f (ns.map (Nd.drop (Tok.has f))) (e.drop (Tok.has f))
  rw [List.length_map] at this
  rw [Nat.sub_zero,this]
  exact (unhide HS).1
 case round=>
  clear HS
  obtain ⟨i,hi,rfl,HK⟩:=hrel
  obtain ⟨Ux,x1,x2,x3⟩:=unhide HK
  obtain ⟨k1,k2,k3,k4,k5,k6,k7,k8,k9,k10⟩:=unhide HP
  obtain ⟨qW,qE,qB,qL,qO,qR⟩:=unhide HQ
  have hold:∀ k,k < w.heap.size→Ux k=U k:=fun k hk=>by rw [x3 k (Nat.lt_of_lt_of_le hk k8.size),newU_old hk]
  have hG:GrS (Codes U q ns.length) w wr:=by
   refine (GrS.of k8 (by simp)).comp x2 (fun k hk hn hc=>hn ?_)
   unfold Codes at hc ⊢
   rw [newU_old hk] at hc
   exact hc
  have hn1:∀ k,U k=1→¬ Codes U q ns.length k:=fun k hk hc=>by unfold Codes at hc; omega
  clear HK
  by_cases hlt:i < ns.length
  ·have hdd:decide (i < ns.length)=true:=by simpa using hlt
   obtain ⟨n0,hn0⟩:∃ n0,ns[ns.length - 1 - i]?=some n0:=⟨_,List.getElem?_eq_getElem (by omega)⟩
   obtain ⟨bx,hb1,hb2⟩:=k4.2 _ n0 hn0
   obtain ⟨bx',hb3,hb4⟩:=k7.bk hn0
   obtain rfl:bx=bx':=hb2.uniq hb3
   have hbk:Bk Ux (4+3 * (q+(ns.length - 1 - i))) bx:=hb2.old hb4 hold
   have hrv:hs.reverse[i]?=some (.iface (ndPTy n0.c.neg) (.pointer (some ⟨bx,0,none⟩))):=by
    rw [List.getElem?_reverse (by rw [k4.1]; exact hlt),k4.1]
    exact hb1
   have hrow:=k3.keep2 (T':=Ux) hG hn1 (fun k hk h=>by rw [hold k hk]; exact h)
   obtain ⟨g,cap',e1,hc⟩:=hrow.1.cells hrv
   simp only [Value.slice.injEq] at e1
   obtain ⟨rfl,hjunk,rfl⟩:=e1
   clear hjunk
   have c0:=hc 0 (by omega)
   have hcf:wr.cell? ⟨w.heap.size,0,none⟩=some (.pointer (some ⟨f.blk,0,none⟩)):=cell_of (x2.blk k9 (by unfold Codes; rw [newU_new (Nat.le_refl _)]; omega)) rfl
   have hfW:FtAt Ux f wr:=k10.keep x2 (fun k hk hc=>by unfold Codes at hc; omega) (fun k hk h=>by rw [x3 k hk]; exact h)
   have hlm:(ns.map (Nd.drop (Tok.has f))).length=ns.length:=List.length_map ..
   have hA:∀ wx,wr.grownBy wx none→Calls Tryz.prog (delFn n0.c.neg) #[.pointer (some ⟨bx,0,none⟩),.pointer (some ⟨f.blk,0,none⟩)] wx fun e' w'=>(e'=.returned (if n0.c.neg=true then .tuple #[] else .bool (n0.K.any (fun g=>g.blk == f.blk))))∧AtPost Ux ru jn q 0 (delFrom f (ns.length - (i+1)) (ns.map (Nd.drop (Tok.has f))) (e.drop (Tok.has f))) ns.length (.iface ty2 (.pointer (some ⟨b2,0,none⟩))) wx w':=by
    intro wx hg
    have:=delFrom_w ru jn Ux f wx (hfW.gr hg) [] q bx 16 i (Nd.drop (Tok.has f) n0) (ns.map (Nd.drop (Tok.has f))) (e.drop (Tok.has f)) (.iface ty2 (.pointer (some ⟨b2,0,none⟩))) (by rw [hlm]; exact hlt) (by rw [hlm,List.getElem?_map,hn0]; rfl) (by rw [hlm]; exact hbk) (by rw [hlm]; exact x1.gr hg) (qW.drop _) (qE.drop _) (qB.drop _) (by omega) (by rw [hlm]; exact qL) (qO n0 (List.mem_of_getElem? hn0)).1 (qO n0 (List.mem_of_getElem? hn0)).2
    rw [hlm] at this
    exact this
   have hend:∀ wx W',wr.grownBy wx none→AtPost Ux ru jn q 0 (delFrom f (ns.length - (i+1)) (ns.map (Nd.drop (Tok.has f))) (e.drop (Tok.has f))) ns.length (.iface ty2 (.pointer (some ⟨b2,0,none⟩))) wx W'→Hid (∃ Uy,SufAt Uy ru jn q 0 (delFrom f (ns.length - (i+1)) (ns.map (Nd.drop (Tok.has f))) (e.drop (Tok.has f))).1 (delFrom f (ns.length - (i+1)) (ns.map (Nd.drop (Tok.has f))) (e.drop (Tok.has f))).2 (.iface ty2 (.pointer (some ⟨b2,0,none⟩))) W'∧GrS (Codes (newU U w 0) q ns.length) (w.alloc (.cells #[.pointer (some ⟨f.blk,0,none⟩)] 90)) W'∧(∀ k,k < (w.alloc (.cells #[.pointer (some ⟨f.blk,0,none⟩)] 90)).heap.size→Uy k=newU U w 0 k)):=by
    rintro wx W' hg ⟨U',a1,a2,a3⟩
    have x2':=x2.then hg (by simp)
    refine hide ⟨U',a1,x2'.comp a2 (fun k hk hn hc=>hn ?_),fun k hk=>?_⟩
    ·unfold Codes at hc ⊢
     rw [←x3 k hk]
     exact hc
    ·rw [a3 k (Nat.lt_of_lt_of_le hk x2'.size)]
     exact x3 k hk
   have HEND:=hide hend
   have HOLD:=hide hold
   have tJ:=Tryz.asJoin
   have tH:=Tryz.asHold
   have tN:=Tryz.notJoin
   simp only [venc,Nat.mul_one,Nat.add_zero,List.getElem?_cons_zero] at c0
   clear hend hold hG hn1 x1 x2 x3 k1 k2 k3 k4 k5 k6 k7 k8 k9 k10 qW qE qB qL qO qR hn0 hb1 hb2 hb3 hb4 hbk hrv hrow hc hfW hlm
   cases hng:n0.c.neg with
   | true=>
    rw [hng] at hA c0
    simp only [delFn,if_true] at hA
    unfold ndPTy at c0
    rw [if_pos rfl] at c0
    clear hng
    have hA1:=hA wr (World.grownBy.refl wr none)
    go_wp2_with fail
    refine hA1.mono ?_
    rintro e3 w7 ⟨rfl,hp⟩
    have HK:=unhide HEND wr w7 (World.grownBy.refl wr none) hp
    clear hA hA1 hp HEND c0 hcf
    go_wp2
    go_roundw
    case rel=>exact ⟨i+1,by omega,by go_num,HK⟩
    case measure=>simp [intOf]; omega
   | false=>
    rw [hng] at hA c0
    simp only [delFn,Bool.false_eq_true,if_false] at hA
    unfold ndPTy at c0
    rw [if_neg (by simp)] at c0
    clear hng
    go_wp2_with fail
    first
     | go_region_with (go_at_call 107; refine (hA _ (by repeat (first | assumption | exact World.grownBy.refl _ _ | apply gr_drew))).mono ?_; rintro e3 w7 ⟨rfl,hp⟩)
     | fail
    all_goals
     have HK:=unhide HEND _ _ (by repeat (first | assumption | exact World.grownBy.refl _ _ | apply gr_drew)) hp
     clear hA HEND c0 hcf hp
     go_wp2
     go_roundw
     case rel=>exact ⟨i+1,by omega,by go_num,HK⟩
     case measure=>simp [intOf]; omega
  ·have hdd:decide (i < ns.length)=false:=by simpa using hlt
   have hie:i=ns.length:=by omega
   subst hie
   rw [Nat.sub_self] at x1
   have HX:=hide (show _∧_∧_∧_ from ⟨x1,x2,hold,hG⟩)
   have HN1:=hide hn1
   clear x1 x2 x3 hold hG hn1 k1 k2 k3 k4 k5 k6 k7 k8 k9 k10 qW qE qB qL qO qR
   go_wp2
   go_end0
   obtain ⟨x1,x2,hold,hG⟩:=unhide HX
   obtain ⟨k1,k2,k3,k4,k5,k6,k7,k8,k9,k10⟩:=unhide HP
   have hlen:(delC f ns e).1.length=ns.length:=(delAll_len f _ _).trans (List.length_map ..)
   refine ⟨rfl,Ux,⟨.slice ao ns.length cap,_,hs,lb,hG.blk k1 (unhide HN1 b k2),by rw [hold b (row_lt k1)]; exact k2,k3.keep2 hG (unhide HN1) (fun k hk h=>by rw [hold k hk]; exact h),⟨by rw [hlen]; exact k4.1,fun p n hn=>?_⟩,k5,?_,x1⟩,hG,hold⟩
   ·have hp:p < ns.length:=by rw [←hlen]; exact (List.getElem?_eq_some_iff.1 hn).1
    have hn0:ns[p]?=some (ns[p]'hp):=List.getElem?_eq_getElem hp
    have h:=congrArg (fun l:List Bool=>l[p]?) (delC_negs f ns e)
    simp only [negs,List.getElem?_map,hn,hn0,Option.map_some,Option.some.injEq] at h
    obtain ⟨bx,hb1,hb2⟩:=k4.2 p _ hn0
    obtain ⟨bx',hb3,hb4⟩:=k7.bk hn0
    obtain rfl:bx=bx':=hb2.uniq hb3
    exact ⟨bx,by rw [h]; exact hb1,hb2.old hb4 hold⟩
   ·obtain ⟨b',tv',wv',hb3,hb4⟩:=k7.bkLast
    obtain rfl:=k6.uniq hb3
    rw [hlen]
    exact k6.old (row_lt hb4.blk) hold
end Go.Proofs.YtolhbeekfjnfmaaGreatDoor
namespace Go.Proofs.YtolhbeekfjnfmaaGreatDoor
open Go.RowKit
theorem delC_len (f:Ft) (ns:List Nd) (e:En):(delC f ns e).1.length=ns.length:=(delAll_len f _ _).trans (List.length_map ..)
theorem Good.filt {F:List Ft}:∀ {ss:List Site} {k:Nat} {ns:List Nd} {cs:List Sv.Cond},Good F ss k ns cs→∀ n∈ns,∃ p:Ft→Bool,n.K=F.filter p
 | _,_,[],_,_,n,hn=>by simp at hn
 | _,_,_ :: _,[],h,_,_=>h.elim
 | ss,k,m :: ns,c :: cs,h,n,hn=>by
  obtain ⟨_,_,hK,hg⟩:=h
  rcases List.mem_cons.1 hn with rfl | hn
  ·exact ⟨_,hK⟩
  ·exact Good.filt hg n hn
theorem FtAsc.oneBlk {F:List Ft} (h:FtAsc F) (p:Ft→Bool):OneBlk (F.filter p):=(List.Pairwise.imp (fun h=>by omega) h).filter p
theorem ChOk.apart {F:List Ft} {cs:List Sv.Cond} {c:Ch} (h:ChOk F cs c) (hF:FtAsc F) {f:Ft} (hf:f∈F):∀ n∈c.ns,OneBlk n.K∧∀ g∈n.K,g.blk=f.blk→g.f=f.f:=by
 intro n hn
 obtain ⟨p,hp⟩:=h.good.filt n hn
 rw [hp]
 exact ⟨hF.oneBlk p,fun g hg he=>by rw [hF.one (List.mem_filter.1 hg).1 hf (.inr he)]⟩
def delChs (f:Ft) (j:Nat) (chs:List Ch):List Ch:=(chs.take j).map (delCh f) ++ chs.drop j
theorem delChs_get {f:Ft} {j:Nat} {chs:List Ch} {c:Ch} (h:chs[j]?=some c):(delChs f j chs)[j]?=some c:=by
 have hl:=(List.getElem?_eq_some_iff.1 h).1
 unfold delChs
 rw [List.getElem?_append_right (by simp; omega)]
 simp [Nat.min_eq_left (Nat.le_of_lt hl),h]
theorem delChs_succ {f:Ft} {j:Nat} {chs:List Ch} {c:Ch} (h:chs[j]?=some c):delChs f (j+1) chs=(delChs f j chs).set j (delCh f c):=by
 have hl:=(List.getElem?_eq_some_iff.1 h).1
 have hd:chs.drop j=c :: chs.drop (j+1):=by rw [List.drop_eq_getElem_cons hl,(List.getElem?_eq_some_iff.1 h).2]
 unfold delChs
 rw [List.set_append_right _ _ (by simp; omega),List.take_add_one,h,hd]
 simp [Nat.min_eq_left (Nat.le_of_lt hl)]
set_option maxRecDepth 100000 in
set_option maxHeartbeats 2000000 in
theorem nRemove_w (U:Nat→Nat) (b:Nat) (chs:List Ch) (f:Ft) (w:World) (hN:NetAt U b chs w) (hok:∀ c∈chs,ChFit c∧∀ n∈c.ns,OneBlk n.K∧∀ g∈n.K,g.blk=f.blk→g.f=f.f) (hf:FtAt U f w) :
  Calls Tryz.prog 47 #[.pointer (some ⟨b,0,none⟩),fptr f] w fun e w'=>e=.returned (.tuple #[])∧∃ U',NetAt U' b (chs.map (delCh f)) w'∧GrS (fun i=>4≤U i) w w'∧FtAt U' f w'∧∀ i,i < w.heap.size→U' i=U i:=by
 obtain ⟨cv,bs,h1,h2,h3,h4⟩:=hN
 obtain ⟨ao,cap,rfl⟩:=h3.1.slice
 have hlm:=h3.1.le
 unfold maxLen at hlm
 have hln:=h4.len
 have c0:w.cell? ⟨b,0,none⟩=some (.slice ao bs.length cap):=by simp [World.cell?,h1]
 have HI:=hide (show ∃ U',w.heap[b]?=some (.cells #[.slice ao bs.length cap] 133 (0,0))∧U' b=1∧TRow U' 1 134 1 penc (.slice ao bs.length cap) bs w∧ChsAt U' 0 0 (delChs f 0 chs) bs w∧GrS (fun i=>4≤U i) w w∧FtAt U' f w∧∀ i,i < w.heap.size→U' i=U i from ⟨U,h1,h2,h3,by simpa [delChs] using h4,GrS.refl _ _,hf,fun _ _=>rfl⟩)
 have HOK:=hide hok
 have HLN:=hide hln
 clear h1 h2 h3 h4 hf hok hln
 unfold fptr
 go_enter Tryz.func47,Tryz.ntmps47
 go_wp2
 clear c0
 go_loopw [11] (fun x w'=>∃ j:Nat,j≤bs.length∧x=.int .i64 j∧Hid (∃ U',w'.heap[b]?=some (.cells #[.slice ao bs.length cap] 133 (0,0))∧U' b=1∧TRow U' 1 134 1 penc (.slice ao bs.length cap) bs w'∧ChsAt U' 0 0 (delChs f j chs) bs w'∧GrS (fun i=>4≤U i) w w'∧FtAt U' f w'∧∀ i,i < w.heap.size→U' i=U i)) (fun x _=>bs.length - (intOf x).toNat)
 case atStart=>exact ⟨0,Nat.zero_le _,rfl,HI⟩
 case round=>
  clear HI
  obtain ⟨j,hj,rfl,HK⟩:=hrel
  obtain ⟨Ux,x1,x2,x3,x4,x5,x6,x7⟩:=unhide HK
  clear HK
  by_cases hlt:j < bs.length
  ·have hd:decide (j < bs.length)=true:=by simpa using hlt
   have hlc:j < chs.length:=by rw [←unhide HLN]; exact hlt
   obtain ⟨c,hc⟩:∃ c,chs[j]?=some c:=⟨_,List.getElem?_eq_getElem hlc⟩
   obtain ⟨bj,hbj,hch⟩:=x4.get (delChs_get (f:=f) hc)
   obtain ⟨g,cap',e1,c1⟩:=PsAt.cell x3.1 hbj
   simp only [Value.slice.injEq,true_and] at e1
   obtain ⟨rfl,rfl⟩:=e1
   have hfit:=unhide HOK c (List.mem_of_getElem? hc)
   rw [Nat.zero_add] at hch
   have hA:=cremove_w j c.jn Ux _ bj c.ns c.e f wr hch hfit.1.wf hfit.1.en hfit.1.bd hfit.1.few x6 hfit.2
   have hA2:Calls Tryz.prog 71 #[.pointer (some ⟨bj,0,none⟩),.pointer (some ⟨f.blk,0,none⟩)] wr fun e' w'=>e'=.returned (.tuple #[])∧Hid (∃ U',w'.heap[b]?=some (.cells #[.slice (some ⟨g,0,none⟩) bs.length cap] 133 (0,0))∧U' b=1∧TRow U' 1 134 1 penc (.slice (some ⟨g,0,none⟩) bs.length cap) bs w'∧ChsAt U' 0 0 (delChs f (j+1) chs) bs w'∧GrS (fun i=>4≤U i) w w'∧FtAt U' f w'∧∀ i,i < w.heap.size→U' i=U i):=by
    refine hA.mono ?_
    rintro e' w' ⟨rfl,U',k1,k2,k3⟩
    have hn1:∀ i,Ux i=1→¬ Codes Ux (nextQ 0 ((delChs f j chs).take j)) c.ns.length i:=fun i hi hx=>by unfold Codes at hx; omega
    refine ⟨rfl,hide ⟨U',k2.blk x1 (hn1 b x2),by rw [k3 b (row_lt x1)]; exact x2,x3.keep2 k2 hn1 (fun i hi e=>by rw [k3 i hi]; exact e),?_,?_,x6.keep k2 hn1 (fun i hi e=>by rw [k3 i hi]; exact e),fun i hi=>by rw [k3 i (Nat.lt_of_lt_of_le hi x5.size),x7 i hi]⟩⟩
    ·rw [delChs_succ hc]
     refine ChsAt.set k3 x4 (delChs_get hc) hbj (delC_len f _ _) k2 ?_
     rw [Nat.zero_add]
     exact k1
    ·refine x5.comp k2 (fun i hi hn hx=>hn ?_)
     rw [←x7 i hi]
     unfold Codes at hx
     omega
   clear hA hch x1 x2 x3 x4 x5 x6 x7 hfit
   go_wp2_with (go_at_call 71; refine hA2.mono ?_; rintro e' w2 ⟨rfl,hK2⟩)
   go_roundw
   case rel=>exact ⟨j+1,by omega,by go_num,hK2⟩
   case measure=>simp [intOf]; omega
  ·have hd:decide (j < bs.length)=false:=by simpa using hlt
   have e:delChs f j chs=chs.map (delCh f):=by
    unfold delChs
    rw [List.take_of_length_le (by have:=unhide HLN; omega),List.drop_eq_nil_of_le (by have:=unhide HLN; omega),List.append_nil]
   rw [e] at x4
   have HF:=hide (show ∃ U',NetAt U' b (chs.map (delCh f)) wr∧GrS (fun i=>4≤U i) w wr∧FtAt U' f wr∧∀ i,i < w.heap.size→U' i=U i from ⟨Ux,⟨_,bs,x1,x2,x3,x4⟩,x5,x6,x7⟩)
   clear x1 x2 x3 x4 x5 x6 x7 e
   go_wp2
   go_end0
   exact ⟨rfl,unhide HF⟩
end Go.Proofs.YtolhbeekfjnfmaaGreatDoor
namespace Go.Proofs.YtolhbeekfjnfmaaGreatDoor
def Sv.St.del (s:Sv.St) (id:Int):Int×Sv.St:=
 if s.L.any (fun p=>p.1 == id) then (0,⟨s.rs,s.L.filter (fun p=>!(p.1 == id)),s.cnt,Sv.keepF (Sv.matches s.rs (s.L.filter (fun p=>!(p.1 == id)))) s.fired⟩) else (5,s)
def Sv.St.fire (s:Sv.St):((Int×List Int)×Int)×Sv.St:=
 match Sv.best none (Sv.waits s) with
 | none=>(((0,[]),5),s)
 | some m=>((m,0),⟨s.rs,s.L,s.cnt,s.fired ++ [m]⟩)
structure Sv.KOk (rs:List Sv.Rule) (m n:Nat) (s:Sv.St):Prop where
 rs:s.rs=rs
 len:s.L.length≤m
 c0:0≤s.cnt
 cn:s.cnt≤n
 asc:s.L.Pairwise (fun p q=>p.1 < q.1)
 rng:∀ p∈s.L,1≤p.1∧p.1≤s.cnt
 fok:∀ p∈s.L,Sv.factOk p.2=true
theorem Sv.KOk.new (rs:List Sv.Rule) (m:Nat):Sv.KOk rs m 0 ⟨rs,[],0,[]⟩:=⟨rfl,Nat.zero_le _,Int.le_refl _,Int.le_refl _,List.Pairwise.nil,by simp,by simp⟩
theorem Sv.KOk.more {rs:List Sv.Rule} {m m' n n':Nat} {s:Sv.St} (h:Sv.KOk rs m n s) (hm:m≤m') (hn:n≤n'):Sv.KOk rs m' n' s:=⟨h.rs,Nat.le_trans h.len hm,h.c0,by have:=h.cn; omega,h.asc,h.rng,h.fok⟩
theorem Sv.KOk.add {rs:List Sv.Rule} {m n:Nat} {s:Sv.St} (h:Sv.KOk rs m n s) (f:Sv.Fact) (hl:s.L.length < m):Sv.KOk rs m (n+1) (s.add f).2:=by
 have h0:=h.c0
 have h1:=h.cn
 unfold Sv.St.add
 split
 ·exact h.more (Nat.le_refl _) (by omega)
 ·split
  ·exact h.more (Nat.le_refl _) (by omega)
  ·rename_i hff _
   refine ⟨h.rs,by rw [List.length_append,List.length_singleton]; omega,by show (0:Int)≤s.cnt+1; omega,by show s.cnt+1≤_; omega,?_,fun p hp=>?_,fun p hp=>?_⟩
   ·refine List.pairwise_append.2 ⟨h.asc,List.pairwise_singleton _ _,fun a ha b hb=>?_⟩
    rw [List.mem_singleton] at hb
    subst hb
    have:=(h.rng a ha).2
    show a.1 < s.cnt+1
    omega
   ·rcases List.mem_append.1 hp with hp | hp
    ·have:=h.rng p hp
     exact ⟨this.1,by show p.1≤s.cnt+1; omega⟩
    ·rw [List.mem_singleton] at hp
     subst hp
     exact ⟨by show 1≤s.cnt+1; omega,Int.le_refl _⟩
   ·rcases List.mem_append.1 hp with hp | hp
    ·exact h.fok p hp
    ·rw [List.mem_singleton] at hp
     subst hp
     simpa using hff
theorem Sv.KOk.del {rs:List Sv.Rule} {m n:Nat} {s:Sv.St} (h:Sv.KOk rs m n s) (id:Int):Sv.KOk rs m n (s.del id).2:=by
 unfold Sv.St.del
 split
 ·exact ⟨h.rs,Nat.le_trans (List.length_filter_le _ _) h.len,h.c0,h.cn,h.asc.filter _,fun p hp=>h.rng p (List.mem_filter.1 hp).1,fun p hp=>h.fok p (List.mem_filter.1 hp).1⟩
 ·exact h
theorem Sv.St.fire_same (s:Sv.St):s.fire.2.rs=s.rs∧s.fire.2.L=s.L∧s.fire.2.cnt=s.cnt:=by
 unfold Sv.St.fire
 split
 ·exact ⟨rfl,rfl,rfl⟩
 ·exact ⟨rfl,rfl,rfl⟩
theorem Sv.St.fire_num (s:Sv.St):s.fire.1.2=0∨s.fire.1.2=5:=by
 unfold Sv.St.fire
 split
 ·exact .inr rfl
 ·exact .inl rfl
theorem Sv.KOk.fire {rs:List Sv.Rule} {m n:Nat} {s:Sv.St} (h:Sv.KOk rs m n s):Sv.KOk rs m n s.fire.2:=by
 obtain ⟨h1,h2,h3⟩:=Sv.St.fire_same s
 exact ⟨h1.trans h.rs,by rw [h2]; exact h.len,by rw [h3]; exact h.c0,by rw [h3]; exact h.cn,by rw [h2]; exact h.asc,by rw [h2,h3]; exact h.rng,by rw [h2]; exact h.fok⟩
theorem Sv.St.del_num (s:Sv.St) (p:Int×Sv.Fact) (hp:p∈s.L):(s.del p.1).1=0:=by
 unfold Sv.St.del
 rw [if_pos (by rw [List.any_eq_true]; exact ⟨p,hp,by simp⟩)]
theorem Sv.St.add_del (s:Sv.St) (f:Sv.Fact) (hf:Sv.factOk f=true) (hl:s.L.length < 16) (hr:∀ p∈s.L,p.1≤s.cnt):((s.add f).2.del (s.cnt+1)).1=0∧((s.add f).2.del (s.cnt+1)).2.L=s.L∧((s.add f).2.del (s.cnt+1)).2.rs=s.rs:=by
 unfold Sv.St.add
 rw [if_neg (by rw [hf]; simp),if_neg (by omega)]
 unfold Sv.St.del
 simp only
 rw [if_pos (by rw [List.any_eq_true]; exact ⟨_,List.mem_append.2 (.inr (List.mem_singleton.2 rfl)),by simp⟩)]
 refine ⟨rfl,?_,rfl⟩
 show (s.L ++ [(s.cnt+1,f)]).filter (fun p=>!(p.1 == s.cnt+1))=s.L
 rw [List.filter_append,List.filter_cons_of_neg (by simp),List.filter_nil,List.append_nil,List.filter_eq_self]
 intro p hp
 have:=hr p hp
 simp
 omega
theorem Sv.best_mem:∀ (l:List (Int×List Int)) (k:Int×List Int),Sv.best none l=some k→k∈l
 | [],k,h=>by cases h
 | x :: l,k,h=>by
  have e:Sv.best none (x :: l)=Sv.best (some x) l:=rfl
  rw [e] at h
  obtain ⟨k',h1,h2,_⟩:=Sv.best_some x l
  rw [h1] at h
  cases h
  rcases h2 with rfl | h2
  ·exact List.mem_cons_self ..
  ·exact List.mem_cons_of_mem _ h2
theorem Sv.best_top:∀ (l:List (Int×List Int)) (b k:Int×List Int),Sv.best (some b) l=some k→Sv.newer b k=false∧∀ x∈l,Sv.newer x k=false
 | [],b,k,h=>by
  cases h
  exact ⟨by rw [Sv.newer_no,cmpL_self]; exact Int.le_refl _,by simp⟩
 | y :: l,b,k,h=>by
  have e:Sv.best (some b) (y :: l)=Sv.best (Sv.pickB (some b) y) l:=rfl
  rw [e] at h
  unfold Sv.pickB at h
  simp only at h
  cases hy:Sv.newer y b
  ·rw [hy,if_neg (by simp)] at h
   obtain ⟨h1,h2⟩:=Sv.best_top l b k h
   refine ⟨h1,fun x hx=>?_⟩
   rcases List.mem_cons.1 hx with rfl | hx
   ·exact Sv.newer_le hy h1
   ·exact h2 x hx
  ·rw [hy,if_pos rfl] at h
   obtain ⟨h1,h2⟩:=Sv.best_top l y k h
   refine ⟨?_,fun x hx=>?_⟩
   ·have hb:Sv.newer b y=false:=by
     rw [Sv.newer_no]
     rw [Sv.newer_yes] at hy
     rw [cmpL_flip]
     omega
    exact Sv.newer_le hb h1
   ·rcases List.mem_cons.1 hx with rfl | hx
    ·exact h1
    ·exact h2 x hx
theorem Sv.best_top0 (l:List (Int×List Int)) (k:Int×List Int) (h:Sv.best none l=some k):∀ x∈l,Sv.newer x k=false:=by
 cases l with
 | nil=>simp
 | cons y l=>
  have e:Sv.best none (y :: l)=Sv.best (some y) l:=rfl
  rw [e] at h
  obtain ⟨h1,h2⟩:=Sv.best_top l y k h
  intro x hx
  rcases List.mem_cons.1 hx with rfl | hx
  ·exact h1
  ·exact h2 x hx
theorem Sv.mem_waits (s:Sv.St) (m:Int×List Int):m∈Sv.waits s↔m∈Sv.matches s.rs s.L∧m ∉ s.fired:=by
 unfold Sv.waits
 rw [List.mem_filter,Bool.not_eq_true',←Bool.not_eq_true,Sv.hasM_iff]
end Go.Proofs.YtolhbeekfjnfmaaGreatDoor

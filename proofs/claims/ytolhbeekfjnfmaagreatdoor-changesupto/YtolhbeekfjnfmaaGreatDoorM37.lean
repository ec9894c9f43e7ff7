import Derived.Test.YtolhbeekfjnfmaaGreatDoorM36
namespace Go.Proofs.YtolhbeekfjnfmaaGreatDoor
open Go.RowKit
theorem Q3n(nb:Nat)(w:World):Calls Tryz.prog 49 #[.pointer (some ⟨nb,0,none⟩)] w fun e w'=>e=.returned (.func (.func 76) #[] #[.pointer (some ⟨w.heap.size,0,none⟩)])/\w'=w.alloc (.cells #[.pointer (some ⟨nb,0,none⟩)] 84):=by
 go_enter Tryz.func49,Tryz.ntmps49;go_wp2;go_ret;exact⟨rfl,rfl⟩
theorem Vn(f:Nat)(caught:Array Value)(w:World)(R:Ending->World->Prop)(h:Calls Tryz.prog 104 #[.slice none 0 0,.func (.func f) #[] caught] w fun e w'=>∃v,e=.returned v/\R (.returned v) w'):Calls Tryz.prog 70 #[.func (.func f) #[] caught] w R:=by
 go_enter Tryz.func70,Tryz.ntmps70
 go_wp2_with (go_at_call 104;refine h.mono ?_;rintro e w1⟨v,rfl,hR⟩)
 exact hR
def Q0s(a8:List Ch):Prop:=(∀c∈a8,(∀t∈c.e.toks,t.length=c.jn)/\c.jn<=4/\c.e.toks.length<=1000000)/\a8.length<=8
theorem Q33(a8:List Ch)(h:∀c∈a8,c.e.toks.length<=1000000):(a8.map (fun c=>c.e.toks.length)).sum<=a8.length*1000000:=by
 induction a8 with
 | nil=>simp
 | cons c a8 ih=>
  have h1:=h c (BF ..);have h2:=ih (fun d hd=>h d (BG _ hd));simp only[DN,List.sum_cons,AP];omega
theorem Tp(U:Nat->Nat)(nb:Nat)(a8:List Ch)(w:World)(hN:NetAt U nb a8 w)(hU:∀i,w.heap.size<=i->U i=0)(hch:Q0s a8) :
  Calls Tryz.prog 42 #[.pointer (some ⟨nb,0,none⟩)] w fun e w'=>∃v s qs,e=.returned v/\w.grownBy w' none/\RowAt 52 2 mrow 0 v s w'/\MvsOk w.heap.size s w'/\Pq a8 qs/\AllS qs s/\∀g,v.ownBlock=some g->w.heap.size<g:=by
 have dO:=AA w (.cells #[.pointer (some ⟨nb,0,none⟩)] 84) none;have hx0:=AR w (.cells #[.pointer (some ⟨nb,0,none⟩)] 84)
 have hlt:∀i,U i≠0->i<w.heap.size:=fun i hi=>by
  rcases FL i w.heap.size with h|h
  ·exact h
  ·exact absurd (hU i h) hi
 have hs1:(w.alloc (.cells #[.pointer (some ⟨nb,0,none⟩)] 84)).heap.size=w.heap.size+1:=by simp
 have hC:=Vn 76 #[.pointer (some ⟨w.heap.size,0,none⟩)] (w.alloc (.cells #[.pointer (some ⟨nb,0,none⟩)] 84)) (fun e w'=>∃v s qs,e=.returned v/\w.grownBy w' none/\RowAt 52 2 mrow 0 v s w'/\MvsOk w.heap.size s w'/\Pq a8 qs/\AllS qs s/\∀g,v.ownBlock=some g->w.heap.size<g) (by
  refine(Yq 76 #[.pointer (some ⟨w.heap.size,0,none⟩)] (fun i=>i<w.heap.size+1) (fun i=>i<w.heap.size+1) (AllSt U nb w.heap.size w.heap.size w.heap.size a8) _ _ 1000000000 _ (AW _)
   (fun n=>Tf n (fun i=>i<w.heap.size+1) (fun i=>i<w.heap.size+1) U nb w.heap.size w.heap.size w.heap.size 1000000000 a8 (fun i hi=>by have:=hlt i (by omega);show i<w.heap.size+1;omega) (fun j c i _ hi _=>by have:=hlt i (by omega);show i<w.heap.size+1;omega) (fun i hi=>hlt i hi) hch.1 (by have:=hch.2;omega) (by have:=Q33 a8 (fun c hc=>(hch.1 c hc).2.2);have:=hch.2;have:a8.length*1000000<=8*1000000:=BW _ this;omega))
   (enters_of Tryz.func76 (by kernel_rfl) rfl) ?_ (fun Z s A B row h hg hr=>⟨⟨h.1.1,MvsOk.own _ _ s A B row h.1.2 hg hr⟩,h.2⟩) (fun Z s A B row h hg hr=>⟨⟨h.1.1,MvsOk.own _ _ s A B row h.1.2 hg hr⟩,h.2⟩) (fun i hi=>by rw[hs1];exact hi) (fun i hi=>by rw[hs1];exact hi)).mono ?_
  ·intro B hB
   have hg:=Ab dO hB;refine⟨hN.keep (GrS.of hg (by simp):GrS (fun _=>False) w B) (by simp) (fun _ _=>rfl),by rw[hB.block _ (Ad hx0) (by simp)];exact hx0,hg.size,hg.size⟩
  ·rintro e w'⟨v,Z,s,rfl,⟨⟨⟨qs,h1,h2⟩,h3⟩,h4⟩,h5,h6,h7⟩
   refine⟨v,rfl,v,s,qs,rfl,Ab dO h5,h6,h3,h1,h2,fun g hg=>?_⟩;have:=h7 g hg;rw[hs1] at this;omega)
 clear hN hch;go_enter Tryz.func42,Tryz.ntmps42
 go_wp2_with (first|(go_at_call 49;refine(Q3n nb w).mono ?_;rintro e w1⟨rfl,rfl⟩)|(go_at_call 70;refine hC.mono ?_;rintro e w2⟨v,s,qs,rfl,hR⟩))
 go_ret;exact⟨v,s,qs,rfl,hR⟩
end Go.Proofs.YtolhbeekfjnfmaaGreatDoor

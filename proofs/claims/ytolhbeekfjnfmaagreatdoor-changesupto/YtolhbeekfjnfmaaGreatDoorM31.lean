import Derived.Test.YtolhbeekfjnfmaaGreatDoorM30
set_option maxHeartbeats 8000000
set_option maxRecDepth 100000
namespace Go.Proofs.YtolhbeekfjnfmaaGreatDoor
open Go.RowKit
abbrev KW:=@Lib.run_eql_slice_nil
theorem Y3(base:Nat)(v:Value)(l:List Tok)(w:World)(h:RowAt 139 4 A5 base v l w)(hl:l.length<=1000000000) :
  Calls Tryz.prog 113 #[v] w fun e w'=>∃v',e=.returned v'/\RowAt 139 4 A5 w.heap.size v' l w'/\w.grownBy w' none:=by
 rcases h.2.2 with ⟨rfl,h2⟩|⟨g,cap,cur,rfl,h3,h4,h5⟩
 ·obtain rfl:l=[]:=CM.1 h2
  have hE:∀w,(binOp .eql 141 (.slice none 0 0) (.slice none 0 0)).run Tryz.prog w=.ok (.bool true) w:=fun w=>KW w 141 139 none 0 0 0 0 Tryz.underlying141
  go_enter Tryz.func113,Tryz.ntmps113;go_wp2;go_ret;exact⟨_,rfl,RowAt.nil _ _ Br,AD _ _⟩
 ·have HH:=Ac h
  clear h h3 h4 h5;have hE:∀w,(binOp .eql 141 (.slice (some ⟨g,0,none⟩) l.length cap) (.slice none 0 0)).run Tryz.prog w=.ok (.bool false) w:=fun w=>KW w 141 139 (some ⟨g,0,none⟩) l.length cap 0 0 Tryz.underlying141
  go_enter Tryz.func113,Tryz.ntmps113;have hg1:=AA w (.cells #[] 139) none;have hown:=(RowAt.lit0 (e:=139) Br w)
  have aG:=(Aa HH).gr hg1
  go_wp2_with (at_builtin;refine Db rfl _ _ 141 rfl Tryz.underlying141 Tryz.infoToken rfl (by decide) rfl hown rfl aG (fun y _=>Iq y) (by unfold maxLen;simp;omega) (by simp;omega) (by simp) ?_)
  intro v5 w5 ax aY;obtain⟨ao,aI,rfl⟩:=ax.slice;go_wp2;go_ret;exact⟨_,rfl,ax,C0 hg1 aY (fun x hx=>by simp[Value.ownBlock] at hx;omega)⟩
theorem Q2i(p:Option Addr)(cap:Nat)(fv:Value)(w:World):Calls Tryz.prog 114 #[.slice p 0 cap,fv] w fun e w'=>e=.returned (.tuple #[])/\w'=w:=AnyF.slices_SortFunc_none (P:=Tryz.prog) (ρ:=Tryz.laysSF_ren) { Tryz.laysSF with } p cap fv w
structure NowAt(U:Nat->Nat)(bt bl g lb ru jn:Nat)(l:List Tok)(w:World):Prop where
 toks:∃p cap,w.heap[bt]?=some (.cells #[.slice p l.length cap] 141 (0,0))/\(l≠[]->p=some ⟨g,0,none⟩)
 last:w.heap[bl]?=some (.cells #[.pointer (some ⟨lb,0,none⟩)] 137 (0,0))
 cells:TokCells g l w
 four:∀t∈l,t.length=jn
 fts:∀t∈l,∀x∈t,FtAt U x w
 ru:w.cell? ⟨lb,2,none⟩=some (.int .i64 ru)
 jn:w.cell? ⟨lb,3,none⟩=some (.int .i64 jn)
theorem Q4r(U:Nat->Nat)(q b ru jn:Nat)(e:En)(tv wv:Value)(w:World)(h:LastAt U q b ru jn e tv wv w)(h4:∀t∈e.toks,t.length=jn)(hj:jn<=4)(hl:e.toks.length<=1000000000) :
  Calls Tryz.prog 77 #[.pointer (some ⟨b,0,none⟩)] w fun r w'=>∃bt bl g l,r=.returned (.func (.func 116) #[] #[.pointer (some ⟨bt,0,none⟩),.pointer (some ⟨bl,0,none⟩)])/\w.grownBy w' none/\w.heap.size<=bt/\w.heap.size<=bl/\w.heap.size<=g/\l.Perm e.toks/\l.Pairwise (fun a b=>cmpL a.nums b.nums<=0)/\NowAt U bt bl g b ru jn l w':=by
 have c0:w.cell? ⟨b,0,none⟩=some tv:=by simp[World.cell?,h.blk]
 have a7:=AA w (.cells #[.pointer (some ⟨b,0,none⟩)] 137) none;have hC:=Y3 0 tv e.toks _ (h.toks.1.gr a7) hl;obtain⟨ao,cap,xR⟩:=h.toks.1.slice;have d0:=a7.cell c0 (by simp)
 have hS:∀v1 w1,RowAt 139 4 A5 (w.alloc (.cells #[.pointer (some ⟨b,0,none⟩)] 137)).heap.size v1 e.toks w1->(w.alloc (.cells #[.pointer (some ⟨b,0,none⟩)] 137)).grownBy w1 none->∃lG aW,v1=.slice lG e.toks.length aW/\
   Calls Tryz.prog 114 #[v1,.func (.func 115) #[] #[]] (w1.alloc (.cells #[v1] 141)) fun r w'=>r=.returned (.tuple #[])/\Hid (∃g l,w.grownBy w' none/\w.heap.size<=w1.heap.size/\w.heap.size<=g/\l.Perm e.toks/\l.Pairwise (fun a b=>cmpL a.nums b.nums<=0)/\NowAt U w1.heap.size w.heap.size g b ru jn l w'):=by
  intro v1 w1 aS hg1;obtain⟨lG,aW,eQ⟩:=aS.slice;refine⟨lG,aW,eQ,?_⟩;subst eQ;have jx:(w.alloc (.cells #[.pointer (some ⟨b,0,none⟩)] 137)).heap.size=w.heap.size+1:=by simp
  have hs1:=hg1.size;rw[jx] at hs1;have bY:=Ab a7 hg1;have hg2:=AA w1 (.cells #[.slice lG e.toks.length aW] 141) none;have ak:=Ab bY hg2
  have hbl:(w1.alloc (.cells #[.slice lG e.toks.length aW] 141)).heap[w.heap.size]?=some (.cells #[.pointer (some ⟨b,0,none⟩)] 137 (0,0)):=by
   rw[(Ab hg1 hg2).block _ (by rw[jx];omega) (by simp)];exact AR _ _
  have tz:(w1.alloc (.cells #[.slice lG e.toks.length aW] 141)).heap[w1.heap.size]?=some (.cells #[.slice lG e.toks.length aW] 141 (0,0)):=AR _ _;have zo:∀t∈e.toks,∀x∈t,FtAt U x w:=h.tfs;have lz:b<w.heap.size:=Ad h.blk;have r2:w.cell? ⟨b,2,none⟩=some (.int .i64 ru):=by simp[World.cell?,h.blk]
  have r3:w.cell? ⟨b,3,none⟩=some (.int .i64 jn):=by simp[World.cell?,h.blk]
  by_cases hne:e.toks=[]
  ·rw[hne,CE]
   refine(Q2i lG aW _ _).mono ?_;rintro r w'⟨rfl,rfl⟩;rw[hne,CE] at tz ak hbl;refine⟨rfl,Ac ⟨w.heap.size,[],ak,by omega,AW _,DU _,List.Pairwise.nil,⟨⟨lG,aW,tz,fun h=>absurd rfl h⟩,hbl,fun i t hi=>by simp at hi,by simp,by simp,ak.cell r2 (by simp),ak.cell r3 (by simp)⟩⟩⟩
  ·have hlen:0<e.toks.length:=List.length_pos_iff.2 hne
   obtain⟨g,hg⟩:∃g,lG=some ⟨g,0,none⟩:=by
    rcases aS.2.2 with ⟨k1,k2⟩|⟨g,cap',cur,k1,_⟩
    ·omega
    ·simp only[AH] at k1
     exact⟨g,k1.1⟩
   subst hg;have hgo:=aS.own g rfl;rw[jx] at hgo;have hv2:=aS.gr hg2;have hS:=Q2j (Cj U w 0) g aW e.toks (w1.alloc (.cells #[.slice (some ⟨g,0,none⟩) e.toks.length aW] 141)) (hv2.weak (AG _)) (fun t ht=>⟨by rw[h4 t ht];exact hj,fun x hx=>(zo t ht x hx).keep (GrS.of ak (by simp):GrS (fun _=>False) w _) (by simp) (fun k hk e=>by rw[Ak hk];exact e)⟩) (by rw[Bh (by omega)];omega) hl;refine hS.mono ?_;rintro r w'⟨rfl,l,hp,er,hcl,aZ⟩;have oF:w.grownBy w' none:=C0 ak aZ (fun x hx=>by simp at hx;omega);refine⟨rfl,Ac ⟨g,l,oF,by omega,by omega,hp,er,⟨⟨_,aW,?_,fun _=>rfl⟩,?_,hcl,fun t ht=>h4 t (hp.mem_iff.1 ht),fun t ht x hx=>(zo t (hp.mem_iff.1 ht) x hx).gr oF,oF.cell r2 (by simp),oF.cell r3 (by simp)⟩⟩⟩
   ·rw[hp.length_eq,aZ.block _ (Ad tz) (by simp;omega)]
    exact tz
   ·rw[aZ.block _ (Ad hbl) (by simp;omega)]
    exact hbl
 have HS:=Ac hS;clear h hS;subst xR;go_enter Tryz.func77,Tryz.ntmps77
 go_wp2_with (go_at_call 113;refine hC.mono ?_;rintro r w1⟨v1,rfl,aS,hg1⟩;obtain⟨lG,aW,eQ,hS1⟩:=Aa HS v1 w1 aS hg1;subst eQ)
 refine hS1.mono ?_;rintro r w2⟨rfl,HF⟩;clear hS1 HS hC aS hg1 c0 d0 a7;go_wp2;go_ret;obtain⟨g,l,f1,f2,f3,f4,f5,f6⟩:=Aa HF;exact⟨_,_,g,l,rfl,f1,f2,AW _,f3,f4,f5,f6⟩
end Go.Proofs.YtolhbeekfjnfmaaGreatDoor

import Derived.Test.YtolhbeekfjnfmaaGreatDoorK24
import Derived.Test.YtolhbeekfjnfmaaGreatDoorK12
import Derived.Test.YtolhbeekfjnfmaaGreatDoorK25
namespace Go.Proofs.YtolhbeekfjnfmaaGreatDoor
open Go.RowKit
theorem gr_putRowG {α:Type} (enc:α→Value) (w:World) (n g off:Nat) (d:Array α) [Inhabited α]:w.grownBy (Sort.putRow enc (Sort.ahead w n) g off d) (some g):=by
 refine ⟨rfl,rfl,rfl,by simp,?_⟩
 intro k hk hne
 have:g≠k:=fun e=>hne (by rw [e])
 simp [Sort.putRow,Sort.mapBlock,Array.getElem?_modify,this]
theorem gr_sortW {α:Type} [Inhabited α] (enc:α→List Value) (k:Nat) (w:World) (g off n:Nat) (d:Array α) (os:Array Obj):w.grownBy (sortWorldK enc k w g off n d os) (some g):=by
 have h:=gr_putRowG id w n g off (Sort.flatK enc k d)
 have h2:=gr_growS (Sort.putRow id (Sort.ahead w n) g off (Sort.flatK enc k d)) os
 exact ⟨h2.os.trans h.os,h2.tape.trans h.tape,h2.output.trans h.output,Nat.le_trans h.size h2.size,fun i hi hne=>(h2.block i (Nat.lt_of_lt_of_le hi h.size) (by simp)).trans (h.block i hi hne)⟩
abbrev AskT (U:Nat→Nat) (w:World):={ t:Tok // t.length≤4∧∀ g∈t,FtAt U g w }
instance (U:Nat→Nat) (w:World):Inhabited (AskT U w):=⟨⟨[],by simp,by simp⟩⟩
def cfT {U:Nat→Nat} {w:World} (x y:AskT U w):Int:=cmpL x.1.nums y.1.nums
theorem cmpL_lt_trans {a b c:List Int} (h1:cmpL a b < 0) (h2:cmpL b c < 0):cmpL a c < 0:=by
 by_cases h:cmpL a c < 0
 ·exact h
 ·exfalso
  have h3:=cmpL_flip a c
  have h4:=cmpL_trans c a b (by omega) (by omega)
  have h5:=cmpL_flip b c
  omega
theorem swoT {U:Nat→Nat} {w:World}:Sort.SWO (ltOf (cfT (U:=U) (w:=w))) where
 irrefl x:=by unfold ltOf cfT; rw [cmpL_self]; rfl
 trans x y z h1 h2:=by
  unfold ltOf cfT at *
  simp only [decide_eq_true_eq] at *
  exact cmpL_lt_trans h1 h2
 ntrans x y z h1 h2:=by
  unfold ltOf cfT at *
  simp only [decide_eq_false_iff_not] at *
  have e1:=cmpL_flip x.1.nums y.1.nums
  have e2:=cmpL_flip y.1.nums z.1.nums
  have e3:=cmpL_flip x.1.nums z.1.nums
  have:=cmpL_trans z.1.nums y.1.nums x.1.nums (by omega) (by omega)
  omega
def TokCells (g:Nat) (l:List Tok) (w:World):Prop:=∀ i t,l[i]?=some t→∀ k,k < 4→w.cell? ⟨g,i * 4+k,none⟩=(tokEnc t)[k]?
def encA {U:Nat→Nat} {w:World} (x:AskT U w):List Value:=tokEnc x.1
theorem rowfz {α:Type} {e:TypeId} {size:Nat} {enc:α→List Value} {base:Nat} {g n cap:Nat} {l:List α} {w:World} (h:RowAt e size enc base (.slice (some ⟨g,0,none⟩) n cap) l w) (j:Nat):w.frozen? ⟨g,j,none⟩=false:=by
 rcases h.2.2 with ⟨h1,_⟩ | ⟨g',cap',cur,h1,_,h3,_⟩
 ·cases h1
 ·simp only [Value.slice.injEq,Option.some.injEq,Addr.mk.injEq,and_true] at h1
  obtain ⟨rfl,_⟩:=h1
  simp [World.frozen?,h3]
theorem holdsT {U:Nat→Nat} {g cap:Nat} {l:List Tok} {w:World} (hr:ToksAt (.slice (some ⟨g,0,none⟩) l.length cap) l w) (d:Array (AskT U w)) (hd:d.toList.map (fun x=>x.1)=l):Sort.HoldsK encA 4 w g 0 d:=by
 have hs:d.size=l.length:=by rw [←hd]; simp
 intro j hj
 rw [Sort.size_flatK] at hj
 have hq:j / 4 < d.size:=by omega
 refine ⟨?_,rowfz hr _⟩
 rw [id,Sort.get_flatK _ _ _ _ hj]
 have hx:l[j / 4]?=some d[j / 4]!.1:=by
  rw [←hd,List.getElem?_map,getElem!_pos d (j / 4) hq,←Array.getElem_toList hq,List.getElem?_eq_getElem (by simpa using hq)]
  rfl
 obtain ⟨g',cap',h1,h2⟩:=hr.cells hx
 simp only [Value.slice.injEq,Option.some.injEq,Addr.mk.injEq,and_true,true_and] at h1
 obtain ⟨rfl,rfl⟩:=h1
 have:=h2 (j % 4) (by omega)
 rw [show 0+j=j / 4 * 4+j % 4 by omega,this]
 have hl4:j % 4 < (tokEnc d[j / 4]!.1).length:=by rw [tokEnc_len]; omega
 unfold encA
 rw [List.getElem?_eq_getElem hl4,getElem!_pos (tokEnc d[j / 4]!.1) (j % 4) hl4]
set_option maxRecDepth 100000 in
set_option maxHeartbeats 1000000 in
theorem sortT_w (U:Nat→Nat) (g cap:Nat) (l:List Tok) (w:World) (hr:ToksAt (.slice (some ⟨g,0,none⟩) l.length cap) l w) (hl:∀ t∈l,t.length≤4∧∀ x∈t,FtAt U x w) (hu:U g≠1) (hsz:l.length≤1000000000) :
  Calls Tryz.prog 114 #[.slice (some ⟨g,0,none⟩) l.length cap,.func (.func 115) #[] #[]] w fun e w'=>e=.returned (.tuple #[])∧∃ l',l'.Perm l∧l'.Pairwise (fun a b=>cmpL a.nums b.nums≤0)∧TokCells g l' w'∧w.grownBy w' (some g):=by
 obtain ⟨d,hd⟩:∃ d:Array (AskT U w),d.toList.map (fun x=>x.1)=l:=⟨(l.attach.map (fun x=>(⟨x.1,hl x.1 x.2⟩:AskT U w))).toArray,by simp⟩
 have hs:d.size=l.length:=by rw [←hd]; simp
 have hH:=holdsT hr d hd
 have hgl:=(hr.own g rfl).2
 have eg:∀ args w,(callFunc 115 args).run Tryz.prog w=.ok (.enter 115 args) w:=enters_of Tryz.func115 (by kernel_rfl) rfl
 have hcmp:CmpLays Tryz.prog 115 #[] (encA (U:=U) (w:=w)) 4 cfT g 0 d.size w:=by
  intro m os dk hdk x y
  have hG:GrS (fun i=>i=g) w (sortWorldK (encA (U:=U) (w:=w)) 4 w g 0 m dk os):=GrS.of (gr_sortW _ _ _ _ _ _ _ _) (fun a ha=>by simp at ha; exact ha.symm)
  have hf:∀ z:AskT U w,∀ a∈z.1,FtAt U a (sortWorldK (encA (U:=U) (w:=w)) 4 w g 0 m dk os):=fun z a ha=>(z.2.2 a ha).keep hG (fun i hi e=>hu (by rw [←e]; exact hi)) (fun _ _ h=>h)
  refine (cfacts_x U x.1 y.1 _ x.2.1 y.2.1 (hf x) (hf y)).mono ?_
  rintro e w' ⟨rfl,hg⟩
  exact ⟨rfl,hg.form⟩
 have hcon:=AnyQ.slices_SortFunc Tryz.laysSF 4 Tryz.isAgg139 Tryz.sizeOf139 (encA (U:=U) (w:=w)) (fun x=>tokEnc_len x.1) (fun x=>tokEnc_one x.1) cfT swoT 115 #[] g 0 cap d w eg hcmp hH hgl (by omega)
 rw [hs] at hcon
 refine Calls.mono (P:=Tryz.prog) hcon ?_
 rintro e w' ⟨rfl,d',n,os,hp,hso,rfl⟩
 obtain ⟨hp1,_,hp3⟩:=hp
 have hp1':d'.size=l.length:=by rw [hp1,hs]
 have e1:d'.extract 0 l.length=d':=by rw [←hp1']; exact Array.extract_size
 have e2:d.extract 0 l.length=d:=by rw [←hs]; exact Array.extract_size
 rw [e1,e2] at hp3
 have hH':=holdsK_sortWorldK_c (encA (U:=U) (w:=w)) 4 w g 0 d d' n os hH hgl hp1
 refine ⟨rfl,d'.toList.map (fun x=>x.1),by rw [←hd]; exact hp3.map _,?_,?_,gr_sortW _ _ _ _ _ _ _ _⟩
 ·rw [List.pairwise_map,List.pairwise_iff_getElem]
  intro i j hi hj hij
  have hi':i < d'.size:=by simpa using hi
  have hj':j < d'.size:=by simpa using hj
  have:=hso i j (Nat.zero_le _) hij (by omega)
  rw [getElem!_pos d' i hi',getElem!_pos d' j hj'] at this
  unfold ltOf cfT at this
  simp only [decide_eq_false_iff_not] at this
  have h2:=cmpL_flip d'[i].1.nums d'[j].1.nums
  rw [Array.getElem_toList,Array.getElem_toList]
  omega
 ·intro i t hi k hk
  rw [List.getElem?_map] at hi
  cases hx:d'.toList[i]? with
  | none=>rw [hx] at hi; simp at hi
  | some x=>
   rw [hx] at hi
   simp only [Option.map_some,Option.some.injEq] at hi
   subst hi
   have hil:i < d'.size:=by have:=(List.getElem?_eq_some_iff.1 hx).1; simpa using this
   have hj:i * 4+k < d'.size * 4:=by omega
   have h3:=(hH' (i * 4+k) (by rw [Sort.size_flatK]; exact hj)).1
   rw [id,Sort.get_flatK _ _ _ _ hj,Nat.zero_add] at h3
   have q1:(i * 4+k) / 4=i:=by omega
   have q2:(i * 4+k) % 4=k:=by omega
   rw [q1,q2] at h3
   have hxe:d'[i]! = x:=by
    rw [getElem!_pos d' i hil]
    have:=(List.getElem?_eq_some_iff.1 hx).2
    rw [←this,Array.getElem_toList]
   rw [hxe] at h3
   rw [h3]
   have hl4:k < (tokEnc x.1).length:=by rw [tokEnc_len]; omega
   unfold encA
   rw [List.getElem?_eq_getElem hl4,getElem!_pos (tokEnc x.1) k hl4]
end Go.Proofs.YtolhbeekfjnfmaaGreatDoor

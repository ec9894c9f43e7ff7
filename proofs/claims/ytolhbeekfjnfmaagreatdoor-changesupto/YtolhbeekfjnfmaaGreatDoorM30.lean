import Derived.Test.YtolhbeekfjnfmaaGreatDoorM28
import Derived.Test.YtolhbeekfjnfmaaGreatDoorM29
set_option maxHeartbeats 8000000
set_option maxRecDepth 100000
namespace Go.Proofs.YtolhbeekfjnfmaaGreatDoor
open Go.RowKit
variable {α:Type}{U:Nat->Nat}{w:World}{g cap:Nat}
theorem Tl(enc:α->Value)(w:World)(n g off:Nat)(d:Array α)[Inhabited α]:w.grownBy (Sort.putRow enc (Sort.ahead w n) g off d) (some g):=by
 refine⟨rfl,rfl,rfl,by simp,?_⟩;intro k hk hne;have:g≠k:=fun e=>hne (by rw[e])
 simp[Sort.putRow,Sort.mapBlock,Array.getElem?_modify,this]
theorem Rx[Inhabited α](enc:α->List Value)(k:Nat)(w:World)(g off n:Nat)(d:Array α)(os:Array Obj):w.grownBy (sortWorldK enc k w g off n d os) (some g):=by
 have h:=Tl id w n g off (Sort.flatK enc k d);have h2:=Nj (Sort.putRow id (Sort.ahead w n) g off (Sort.flatK enc k d)) os;exact⟨h2.os.trans h.os,h2.tape.trans h.tape,h2.output.trans h.output,AU h.size h2.size,fun i hi hne=>(h2.block i (AZ hi h.size) (by simp)).trans (h.block i hi hne)⟩
abbrev AskT(U:Nat->Nat)(w:World):={ t:Tok // t.length<=4/\∀g∈t,FtAt U g w }
instance (U:Nat->Nat) (w:World):Inhabited (AskT U w):=⟨⟨[],by simp,by simp⟩⟩
def cfT{U:Nat->Nat}{w:World}(x y:AskT U w):Int:=cmpL x.1.nums y.1.nums
theorem Nb{a b c:List Int}(h1:cmpL a b<0)(h2:cmpL b c<0):cmpL a c<0:=by
 by_cases h:cmpL a c<0
 ·exact h
 ·exfalso
  have h3:=Bz a c;have h4:=Ei c a b (by omega) (by omega);have h5:=Bz b c;omega
theorem Q45:Sort.SWO (ltOf (cfT (U:=U) (w:=w))) where
 irrefl x:=by unfold ltOf cfT;rw[Cy];rfl
 trans x y z h1 h2:=by
  unfold ltOf cfT at *;simp only[DF] at *;exact Nb h1 h2
 ntrans x y z h1 h2:=by
  unfold ltOf cfT at *;simp only[decide_eq_false_iff_not] at *;have e1:=Bz x.1.nums y.1.nums;have e2:=Bz y.1.nums z.1.nums;have e3:=Bz x.1.nums z.1.nums;have:=Ei z.1.nums y.1.nums x.1.nums (by omega) (by omega);omega
def TokCells(g:Nat)(l:List Tok)(w:World):Prop:=∀i t,l[i]?=some t->∀k,k<4->w.cell? ⟨g,i*4+k,none⟩=(A5 t)[k]?
def encA{U:Nat->Nat}{w:World}(x:AskT U w):List Value:=A5 x.1
theorem Q4u{e:TypeId}{size:Nat}{enc:α->List Value}{base:Nat}{n:Nat}{l:List α}(h:RowAt e size enc base (.slice (some ⟨g,0,none⟩) n cap) l w)(j:Nat):w.frozen? ⟨g,j,none⟩=false:=by
 rcases h.2.2 with ⟨h1,_⟩|⟨g',cap',cur,h1,_,h3,_⟩
 ·cases h1
 ·simp only[AH,AE,BK,BX] at h1
  obtain⟨rfl,_⟩:=h1;simp[World.frozen?,h3]
theorem Q3j{l:List Tok}(hr:ToksAt (.slice (some ⟨g,0,none⟩) l.length cap) l w)(d:Array (AskT U w))(hd:d.toList.map (fun x=>x.1)=l):Sort.HoldsK encA 4 w g 0 d:=by
 have hs:d.size=l.length:=by rw[<-hd];simp
 intro j hj;rw[Sort.size_flatK] at hj;have hq:j / 4<d.size:=by omega
 refine⟨?_,Q4u hr _⟩;rw[id,Sort.get_flatK _ _ _ _ hj]
 have hx:l[j / 4]?=some d[j / 4]!.1:=by
  rw[<-hd,BR,getElem!_pos d (j / 4) hq,<-GU hq,AB (by simpa using hq)];rfl
 obtain⟨g',cap',h1,h2⟩:=hr.cells hx;simp only[AH,AE,BK,BX,BP] at h1;obtain⟨rfl,rfl⟩:=h1;have:=h2 (j%4) (by omega);rw[show 0+j=j / 4*4+j%4 by omega,this];have hl4:j%4<(A5 d[j / 4]!.1).length:=by rw[Br];omega
 unfold encA;rw[AB hl4,getElem!_pos (A5 d[j / 4]!.1) (j%4) hl4]
theorem Q2j(U:Nat->Nat)(g cap:Nat)(l:List Tok)(w:World)(hr:ToksAt (.slice (some ⟨g,0,none⟩) l.length cap) l w)(hl:∀t∈l,t.length<=4/\∀x∈t,FtAt U x w)(hu:U g≠1)(hsz:l.length<=1000000000) :
  Calls Tryz.prog 114 #[.slice (some ⟨g,0,none⟩) l.length cap,.func (.func 115) #[] #[]] w fun e w'=>e=.returned (.tuple #[])/\∃l',l'.Perm l/\l'.Pairwise (fun a b=>cmpL a.nums b.nums<=0)/\TokCells g l' w'/\w.grownBy w' (some g):=by
 obtain⟨d,hd⟩:∃d:Array (AskT U w),d.toList.map (fun x=>x.1)=l:=⟨(l.attach.map (fun x=>(⟨x.1,hl x.1 x.2⟩:AskT U w))).toArray,by simp⟩
 have hs:d.size=l.length:=by rw[<-hd];simp
 have hH:=Q3j hr d hd;have im:=(hr.own g rfl).2;have eg:∀args w,(callFunc 115 args).run Tryz.prog w=.ok (.enter 115 args) w:=enters_of Tryz.func115 (by kernel_rfl) rfl
 have qC:CmpLays Tryz.prog 115 #[] (encA (U:=U) (w:=w)) 4 cfT g 0 d.size w:=by
  intro m os dk jM x y;have hG:GrS (fun i=>i=g) w (sortWorldK (encA (U:=U) (w:=w)) 4 w g 0 m dk os):=GrS.of (Rx _ _ _ _ _ _ _ _) (fun a ha=>by simp at ha;exact ha.symm);have hf:∀z:AskT U w,∀a∈z.1,FtAt U a (sortWorldK (encA (U:=U) (w:=w)) 4 w g 0 m dk os):=fun z a ha=>(z.2.2 a ha).keep hG (fun i hi e=>hu (by rw[<-e];exact hi)) (fun _ _ h=>h)
  refine(Yz U x.1 y.1 _ x.2.1 y.2.1 (hf x) (hf y)).mono ?_;rintro e w'⟨rfl,hg⟩;exact⟨rfl,hg.form⟩
 have hcon:=AnyQ.slices_SortFunc Tryz.laysSF 4 Tryz.isAgg139 Tryz.sizeOf139 (encA (U:=U) (w:=w)) (fun x=>Br x.1) (fun x=>Iq x.1) cfT Q45 115 #[] g 0 cap d w eg qC hH im (by omega);rw[hs] at hcon;refine Calls.mono (P:=Tryz.prog) hcon ?_;rintro e w'⟨rfl,d',n,os,hp,er,rfl⟩;obtain⟨eH,_,l6⟩:=hp;have SS:d'.size=l.length:=by rw[eH,hs]
 have e1:d'.extract 0 l.length=d':=by rw[<-SS];exact Array.extract_size
 have e2:d.extract 0 l.length=d:=by rw[<-hs];exact Array.extract_size
 rw[e1,e2] at l6;have hH':=holdsK_sortWorldK_c (encA (U:=U) (w:=w)) 4 w g 0 d d' n os hH im eH;refine⟨rfl,d'.toList.map (fun x=>x.1),by rw[<-hd];exact l6.map _,?_,?_,Rx _ _ _ _ _ _ _ _⟩
 ·rw[GQ,KI]
  intro i j hi hj l8;have hi':i<d'.size:=by simpa using hi
  have hj':j<d'.size:=by simpa using hj
  have:=er i j (AG _) l8 (by omega);rw[getElem!_pos d' i hi',getElem!_pos d' j hj'] at this;unfold ltOf cfT at this;simp only[decide_eq_false_iff_not] at this;have h2:=Bz d'[i].1.nums d'[j].1.nums;rw[GU,GU];omega
 ·intro i t hi k hk
  rw[BR] at hi;cases hx:d'.toList[i]? with
  | none=>rw[hx] at hi;simp at hi
  | some x=>
   rw[hx] at hi;simp only[DZ,AE] at hi;subst hi;have eE:i<d'.size:=by have:=(AL.1 hx).1;simpa using this
   have hj:i*4+k<d'.size*4:=by omega
   have h3:=(hH' (i*4+k) (by rw[Sort.size_flatK];exact hj)).1;rw[id,Sort.get_flatK _ _ _ _ hj,BV] at h3;have q1:(i*4+k) / 4=i:=by omega
   have q2:(i*4+k)%4=k:=by omega
   rw[q1,q2] at h3
   have hxe:d'[i]! = x:=by
    rw[getElem!_pos d' i eE];have:=(AL.1 hx).2;rw[<-this,GU]
   rw[hxe] at h3;rw[h3];have hl4:k<(A5 x.1).length:=by rw[Br];omega
   unfold encA;rw[AB hl4,getElem!_pos (A5 x.1) k hl4]
end Go.Proofs.YtolhbeekfjnfmaaGreatDoor

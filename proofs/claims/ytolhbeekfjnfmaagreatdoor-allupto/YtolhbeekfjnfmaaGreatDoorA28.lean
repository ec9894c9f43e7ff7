import Derived.Test.YtolhbeekfjnfmaaGreatDoorA26
import Derived.Test.YtolhbeekfjnfmaaGreatDoorA27
set_option maxHeartbeats 8000000
set_option maxRecDepth 100000
namespace Go.Proofs.YtolhbeekfjnfmaaGreatDoor
open Go.RowKit Go.Proofs.Tryz
variable {α:Type}{U:Nat->Nat}{w:World}{g cap:Nat}
theorem Ug(enc:α->Value)(w:World)(n g off:Nat)(d:Array α)[Inhabited α]:w.grownBy (Sort.putRow enc (Sort.ahead w n) g off d) (some g):=by refine⟨rfl,rfl,rfl,by simp,?_⟩;intro k hk hne;have:g≠k:=λe=>hne (by rw[e]);simp[Sort.putRow,Sort.mapBlock,Array.getElem?_modify,this]
theorem Sf[Inhabited α](enc:α->List Value)(k:Nat)(w:World)(g off n:Nat)(d:Array α)(os:Array Obj):w.grownBy (sortWorldK enc k w g off n d os) (some g):=by have h:=Ug id w n g off (Sort.flatK enc k d);have h2:=Nu (Sort.putRow id (Sort.ahead w n) g off (Sort.flatK enc k d)) os;exact⟨h2.os.trans h.os,h2.tape.trans h.tape,h2.output.trans h.output,AU h.size h2.size,λi hi hne=>(h2.block i (AV hi h.size) (by simp)).trans (h.block i hi hne)⟩
abbrev Q6n(U:Nat->Nat)(w:World):={ t:Tok // t.length<=4/\∀g∈t,Q0J U g w }
instance (U:Nat->Nat) (w:World):Inhabited (Q6n U w):=⟨⟨[],by simp,by simp⟩⟩
def cfT{U:Nat->Nat}{w:World}(x y:Q6n U w):Int:=cmpL x.1.nums y.1.nums
theorem Nk{a b c:List Int}(h1:cmpL a b<0)(h2:cmpL b c<0):cmpL a c<0:=by by_cases h:cmpL a c<0;{exact h};{exfalso;have h3:=B5 a c;have h4:=Em c a b (by omega) (by omega);have h5:=B5 b c;omega}
theorem Q5r:Sort.SWO (ltOf (cfT (U:=U) (w:=w))) where
 irrefl x:=by unfold ltOf cfT;rw[C6];rfl
 trans x y z h1 h2:=by
  unfold ltOf cfT at *;simp only[CT]at *;exact Nk h1 h2
 ntrans x y z h1 h2:=by
  unfold ltOf cfT at *;simp only[decide_eq_false_iff_not]at *;have e1:=B5 x.1.nums y.1.nums;have e2:=B5 y.1.nums z.1.nums;have e3:=B5 x.1.nums z.1.nums;have:=Em z.1.nums y.1.nums x.1.nums (by omega) (by omega);omega
def Q3L(g:Nat)(l:List Tok)(w:World):Prop:=∀i t,l[i]?=some t->∀k,k<4->w.cell? ⟨g,i*4+k,none⟩=(A9 t)[k]?
def encA{U:Nat->Nat}{w:World}(x:Q6n U w):List Value:=A9 x.1
theorem Q5g{e:TypeId}{size:Nat}{enc:α->List Value}{base:Nat}{n:Nat}{l:List α}(h:Q0B e size enc base (.slice (some ⟨g,0,none⟩) n cap) l w)(j:Nat):w.frozen? ⟨g,j,none⟩=false:=by rcases h.2.2 with ⟨h1,_⟩|⟨g',cap',cur,h1,_,h3,_⟩;{cases h1};{simp only[AH,AE,BL,CA]at h1;obtain⟨rfl,_⟩:=h1;simp[World.frozen?,h3]}
theorem Q31{l:List Tok}(hr:Q0G (.slice (some ⟨g,0,none⟩) l.length cap) l w)(d:Array (Q6n U w))(hd:d.toList.map (λx=>x.1)=l):Sort.HoldsK encA 4 w g 0 d:=by
 have hs:d.size=l.length:=by rw[<-hd];simp
 intro j hj;rw[Sort.size_flatK]at hj;have hq:j / 4<d.size:=by omega
 refine⟨?_,Q5g hr _⟩;rw[id,Sort.get_flatK _ _ _ _ hj];have hx:l[j / 4]?=some d[j / 4]!.1:=by rw[<-hd,BR,getElem!_pos d (j / 4) hq,<-IC hq,AB (by simpa using hq)];rfl
 obtain⟨g',cap',h1,h2⟩:=hr.cells hx;simp only[AH,AE,BL,CA,BP]at h1;obtain⟨rfl,rfl⟩:=h1;have:=h2 (j%4) (by omega);rw[show 0+j=j / 4*4+j%4 by omega,this];have hl4:j%4<(A9 d[j / 4]!.1).length:=by rw[Bz];omega
 unfold encA;rw[AB hl4,getElem!_pos (A9 d[j / 4]!.1) (j%4) hl4]
theorem Q23(U:Nat->Nat)(g cap:Nat)(l:List Tok)(w:World)(hr:Q0G (.slice (some ⟨g,0,none⟩) l.length cap) l w)(hl:∀t∈l,t.length<=4/\∀x∈t,Q0J U x w)(hu:U g≠1)(hsz:l.length<=1000000000):Calls prog 114 #[.slice (some ⟨g,0,none⟩) l.length cap,.func (.func 115) #[] #[]] w λe w'=>e=.returned (.tuple #[])/\∃l',l'.Perm l/\l'.Pairwise (λa b=>cmpL a.nums b.nums<=0)/\Q3L g l' w'/\w.grownBy w' (some g):=by
 obtain⟨d,hd⟩:∃d:Array (Q6n U w),d.toList.map (λx=>x.1)=l:=⟨(l.attach.map (λx=>(⟨x.1,hl x.1 x.2⟩:Q6n U w))).toArray,by simp⟩
 have hs:d.size=l.length:=by rw[<-hd];simp
 have hH:=Q31 hr d hd;have ig:=(hr.own g rfl).2;have eg:∀args w,(callFunc 115 args).run prog w=.ok (.enter 115 args) w:=enters_of func115 (by kernel_rfl) rfl;have rG:CmpLays prog 115 #[] (encA (U:=U) (w:=w)) 4 cfT g 0 d.size w:=by intro m os dk ix x y;have hG:GrS (λi=>i=g) w (sortWorldK (encA (U:=U) (w:=w)) 4 w g 0 m dk os):=GrS.of (Sf _ _ _ _ _ _ _ _) (λa ha=>by simp at ha;exact ha.symm);have hf:∀z:Q6n U w,∀a∈z.1,Q0J U a (sortWorldK (encA (U:=U) (w:=w)) 4 w g 0 m dk os):=λz a ha=>(z.2.2 a ha).keep hG (λi hi e=>hu (by rw[<-e];exact hi)) (λ_ _ h=>h);refine(Zh U x.1 y.1 _ x.2.1 y.2.1 (hf x) (hf y)).mono ?_;rintro e w'⟨rfl,hg⟩;exact⟨rfl,hg.form⟩
 have hcon:=AnyQ.slices_SortFunc Q4T 4 isAgg139 sizeOf139 (encA (U:=U) (w:=w)) (λx=>Bz x.1) (λx=>I6 x.1) cfT Q5r 115 #[] g 0 cap d w eg rG hH ig (by omega);rw[hs]at hcon;refine Calls.mono (P:=prog) hcon ?_;rintro e w'⟨rfl,d',n,os,hp,fH,rfl⟩;obtain⟨eK,_,ll⟩:=hp;have XD:d'.size=l.length:=by rw[eK,hs]
 have e1:d'.extract 0 l.length=d':=by rw[<-XD];exact Array.extract_size
 have e2:d.extract 0 l.length=d:=by rw[<-hs];exact Array.extract_size
 rw[e1,e2]at ll;have hH':=holdsK_sortWorldK_c (encA (U:=U) (w:=w)) 4 w g 0 d d' n os hH ig eK;refine⟨rfl,d'.toList.map (λx=>x.1),by rw[<-hd];exact ll.map _,?_,?_,Sf _ _ _ _ _ _ _ _⟩;{rw[GY,IU];(intro i j hi hj jY;have hi':i<d'.size:=by simpa using hi);(have hj':j<d'.size:=by simpa using hj);have:=fH i j (AG _) jY (by omega);rw[getElem!_pos d' i hi',getElem!_pos d' j hj']at this;unfold ltOf cfT at this;simp only[decide_eq_false_iff_not]at this;have h2:=B5 d'[i].1.nums d'[j].1.nums;rw[IC,IC];omega};{intro i t hi k hk;rw[BR]at hi;cases hx:d'.toList[i]? with|none=>rw[hx]at hi;simp at hi|some x=>(rw[hx]at hi;simp only[DM,AE]at hi;subst hi;have dN:i<d'.size:=by have:=(AK.1 hx).1;simpa using this);(have hj:i*4+k<d'.size*4:=by omega);(have h3:=(hH' (i*4+k) (by rw[Sort.size_flatK];exact hj)).1;rw[id,Sort.get_flatK _ _ _ _ hj,BU]at h3;have q1:(i*4+k) / 4=i:=by omega);(have q2:(i*4+k)%4=k:=by omega);rw[q1,q2]at h3;(have hxe:d'[i]! = x:=by rw[getElem!_pos d' i dN];have:=(AK.1 hx).2;rw[<-this,IC]);(rw[hxe]at h3;rw[h3];have hl4:k<(A9 x.1).length:=by rw[Bz];omega);unfold encA;rw[AB hl4,getElem!_pos (A9 x.1) k hl4]}
end Go.Proofs.YtolhbeekfjnfmaaGreatDoor

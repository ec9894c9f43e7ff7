import Derived.Test.YtolhbeekfjnfmaaGreatDoorA11
import Derived.Test.YtolhbeekfjnfmaaGreatDoorA12
set_option maxHeartbeats 8000000
set_option maxRecDepth 100000
namespace Go.Proofs.YtolhbeekfjnfmaaGreatDoor
open Go.RowKit Go.Proofs.Tryz
abbrev EC:=@World.ownsRow.stored
variable {y base g n cap j j2 size W i k t:Nat}{rv lv cv fv v v1 v2 uv k0:Value}{w w':World}{α:Type}{l:List Int}{row:Option Nat}{m:Int}{e:TypeId}{c:Array Value}{S:Nat->Prop}{T T':Nat->Nat}{us:List (Value×Int)}
theorem Yi(f:Q0E)(fa:Option Addr)(fc:Nat)(w:World)(hf:Q0V (.slice fa f.vals.length fc) f.vals w)(hl:f.vals.length<=maxLen):Calls prog 119 #[.agg #[.int .i64 f.kind,.slice fa f.vals.length fc]] w λe w'=>e=.returned (.bool (Au f))/\w.grownBy w' none:=by have a7:=AA w (.cells #[.int .i64 f.kind,.slice fa f.vals.length fc] 37) none;have QP:C2 37 w.heap.size (.int .i64 f.kind) (.slice fa f.vals.length fc) (w.alloc (.cells #[.int .i64 f.kind,.slice fa f.vals.length fc] 37)):=AR _ _;unfold maxLen at hl;by_cases h:(decide (f.kind<0)||decide (9<f.kind)||decide (4<f.vals.length))=true;{(have e:Au f=false:=by unfold Au;rw[h];rfl);rw[e];clear e hf;by_cases h1:f.kind<0;{(have d1:decide (f.kind<0)=true:=by simpa using h1);go_enter func119,ntmps119;go_wp2;go_ret;exact⟨rfl,a7⟩};{(have d1:decide (f.kind<0)=false:=by simpa using h1);by_cases h2:9<f.kind;{(have d2:decide (9<f.kind)=true:=by simpa using h2);go_enter func119,ntmps119;go_wp2;go_ret;exact⟨rfl,a7⟩};{(have d2:decide (9<f.kind)=false:=by simpa using h2);(have h3:4<f.vals.length:=by simpa[h1,h2]using h);(have d3:decide ((4:Int)<(f.vals.length:Int))=true:=by simp;omega);clear h h1 h2;go_enter func119,ntmps119;go_wp2;go_ret;exact⟨rfl,a7⟩}}};{(have hn:(decide (f.kind<0)||decide (9<f.kind)||decide (4<f.vals.length))=false:=by simpa using h);(have e:Au f=f.vals.all B7:=by unfold Au;rw[hn];rfl);(rw[e];rw[CZ,CZ]at hn;obtain⟨⟨d1,d2⟩,d3⟩:=hn;have h4:f.vals.length<=4:=by simpa using d3);(have d3':decide ((4:Int)<(f.vals.length:Int))=false:=by simp;omega);(obtain⟨R,hR⟩:∃R,f.vals.all B7=R:=⟨_,rfl⟩);rw[hR];have HR:=Ac hR;have HF:=Ac hf;clear h e d3 hR hf;go_enter func119,ntmps119;go_wp2;go_loopw [3] (λx w'=>∃i:Nat,i<=f.vals.length/\x=.int .i64 i/\w.grownBy w' none/\C2 37 w.heap.size (.int .i64 f.kind) (.slice fa f.vals.length fc) w'/\(f.vals.drop i).all B7=R) (λx _=>f.vals.length-(intOf x).toNat);(case atStart=>exact⟨0,AG _,rfl,a7,QP,Aa HR⟩);case round=>clear a7 QP HR;obtain⟨i,hi,rfl,hg,hF,hR⟩:=hrel;obtain⟨f0,f1⟩:=hF.c;by_cases hlt:i<f.vals.length;{(have hd:decide (i<f.vals.length)=true:=by simpa using hlt);(obtain⟨x,hx⟩:∃x,f.vals[i]?=some x:=⟨f.vals[i],AB hlt⟩);rw[A0 hx,KQ]at hR;obtain⟨g2,wZ,rfl,x0⟩:=((Aa HF).gr hg).cell hx;clear hx;by_cases hx1:x < -999999999;{(have dx:decide (x < -999999999)=true:=by simpa using hx1);(have hv:B7 x=false:=by unfold B7;rw[dx];rfl);rw[hv,DW]at hR;subst hR;clear hv;go_wp2;go_ret;exact⟨rfl,hg⟩};{(have dx:decide (x < -999999999)=false:=by simpa using hx1);by_cases hx2:999999999<x;{(have dy:decide (999999999<x)=true:=by simpa using hx2);(have hv:B7 x=false:=by unfold B7;rw[dx,dy];rfl);rw[hv,DW]at hR;subst hR;clear hv;go_wp2;go_ret;exact⟨rfl,hg⟩};{(have dy:decide (999999999<x)=false:=by simpa using hx2);(have hv:B7 x=true:=by unfold B7;rw[dx,dy];rfl);rw[hv,FB]at hR;have HR:=Ac hR;clear hR hv;go_wp2;go_roundw;(case rel=>exact⟨i+1,by omega,by go_num,hg,hF,Aa HR⟩);case measure=>simp[intOf];omega}}};{(have hd:decide (i<f.vals.length)=false:=by simpa using hlt);have e:f.vals.drop i=[]:=BD (by omega);rw[e]at hR;have hR2:true=R:=hR;subst hR2;go_wp2;go_ret;exact⟨rfl,hg⟩}}
theorem Yh(f:Q0E)(fa:Option Addr)(fc:Nat)(w:World)(hf:Q0V (.slice fa f.vals.length fc) f.vals w)(hl:f.vals.length<=4):Calls prog 120 #[.agg #[.int .i64 f.kind,.slice fa f.vals.length fc]] w λe w'=>∃ao cap,e=.returned (.agg #[.int .i64 f.kind,.slice ao f.vals.length cap])/\w.grownBy w' none/\Q0L w.heap.size (.slice ao f.vals.length cap) f.vals w':=by
 obtain⟨wA,jw⟩:∃wA,((w.alloc (.cells #[.int .i64 f.kind,.slice fa f.vals.length fc] 37)).alloc (.cells #[.int .i64 0,.slice none 0 0] 37)).alloc (.cells #[.int .i64 f.kind,.slice none 0 0] 37)=wA:=⟨_,rfl⟩
 have a7:w.grownBy wA none:=by rw[<-jw];exact Ab (AA w _ none) (Ab (AA _ _ none) (AA _ _ none))
 have gF:C2 37 (w.heap.size+1) (.int .i64 0) (.slice none 0 0) wA:=by rw[<-jw];have:=AR (w.alloc (.cells #[.int .i64 f.kind,.slice fa f.vals.length fc] 37)) (.cells #[.int .i64 0,.slice none 0 0] 37);unfold C2;rw[DD _ _ _ (by simp)];simpa using this
 have iN:C2 37 (w.heap.size+1+1) (.int .i64 f.kind) (.slice none 0 0) wA:=by rw[<-jw];have:=AR ((w.alloc (.cells #[.int .i64 f.kind,.slice fa f.vals.length fc] 37)).alloc (.cells #[.int .i64 0,.slice none 0 0] 37)) (.cells #[.int .i64 f.kind,.slice none 0 0] 37);unfold C2;simpa using this
 have jE:w.heap.size+3=wA.heap.size:=by rw[<-jw];simp
 have vX:=hf.gr a7;have HWA:=Ac jw;clear jw;go_enter func120,ntmps120;go_wp2_with (at_builtin;rw[Aa HWA];refine G7 rfl _ _ 35 rfl underlying35 Q0I rfl rfl (Q0B.nil (w.heap.size+3) _ Av) rfl vX (by unfold maxLen;simp;omega) (by simp;omega) (DV jE) ?_);intro v1 w1 aP hg1;have eN:wA.grownBy w1 none:=hg1;have hB1:=gF.kept eN (by simp);have hB2:=iN.kept eN (by simp);obtain⟨ao,cap,rfl⟩:=aP.slice;obtain⟨b0,b1⟩:=hB1.c;obtain⟨c0,c1⟩:=hB2.c;have bz0:=hB1.fz 0;have bz1:=hB1.fz 1;have cz0:=hB2.fz 0;have cz1:=hB2.fz 1;have bE:=Ab a7 eN;clear HWA hg1 eN gF iN a7;go_wp2;have k1:=Aj w1 (w.heap.size+1+1) 1 (.slice ao f.vals.length cap);have k2:=Ee (w1.setCell ⟨w.heap.size+1+1,1,none⟩ (.slice ao f.vals.length cap)) (w.heap.size+1) (.int .i64 f.kind) (.slice ao f.vals.length cap);have hR:=(hB1.kept k1 (by simp)).set2 (.int .i64 f.kind) (.slice ao f.vals.length cap);obtain⟨r0,r1⟩:=hR.c;have hown:=aP.own;have hv2:=((aP.other k1 (λg hg e=>by have:=hown g hg;simp at e;omega)).other k2 (λg hg e=>by have:=hown g hg;simp at e;omega)).weak (base':=w.heap.size) (by omega);have hg3:=Bo (Bo bE k1 (by omega)) k2 (by omega);exact BO (v:=.agg #[.int .i64 f.kind,.slice ao f.vals.length cap]) (by simp[results,results120,go_sem,r0,r1]) rfl ⟨ao,cap,rfl,hg3,hv2⟩
def Q1u(r:Nat ⊕ List Q0C)(w:World)(e:Ending)(w':World):Prop:=
 w.grownBy w' none/\match r with
  |.inl k=>e=.returned (.tuple #[.pointer none,.int .i64 k])
  |.inr rs=>∃y rv,e=.returned (.tuple #[.pointer (some ⟨y,0,none⟩),.int .i64 0])/\w.heap.size<=y/\(∃w1,Q1K w.heap.size rv rs w1/\w1.heap.size<=y/\w1.grownBy w' none)/\YAt y rv (.slice none 0 0) (.int .i64 0) (.slice none 0 0) rs [] w'
theorem Q4p(s:ByteArray)(w:World)(hm:s.size<=maxLen):Calls prog 52 #[.string s] w λe w'=>Q1u (Bm s.data.toList) w e w':=by
 have hp:=Oc s w hm
 have key:∀e w',Fa w s e w'->w.grownBy w' none/\match Bm s.data.toList with
   |.inl k=>∃n,e=.returned (.tuple #[.slice none 0 0,.int .i64 n,.int .i64 k])/\(k=1\/k=2)
   |.inr rs=>∃u,e=.returned (.tuple #[u,.int .i64 rs.length,.int .i64 0])/\Q1K w.heap.size u rs w':=by
  rintro e w'⟨hg,h⟩;refine⟨hg,?_⟩;unfold Bm;rw[Ae];by_cases h4:400<s.size
  ·rw[AQ h4]at h⊢
   exact⟨0,h,.inr rfl⟩
  ·rw[AO h4]at h⊢
   cases hr:Bt s.data.toList with
   |inl k=>
    rw[hr]at h;exact⟨k,h,.inl rfl⟩
   |inr rs=>
    rw[hr]at h;simp only at h⊢;cases hx:Ea rs;{rw[hx]at h;simpa using h};{rw[hx]at h;exact⟨0,by simpa using h,.inr rfl⟩}
 generalize Bm s.data.toList=R at key⊢;have KEY:=Ac key;clear key;cases R with|inl k=>(go_enter func52,ntmps52;go_wp2_with fail;refine hp.mono ?_;intro e w1 aJ;obtain⟨hg1,n,rfl,hk⟩:=Aa KEY e w1 aJ;clear aJ KEY hp;have hd:((k:Int) !=0)=true:=by rcases hk with rfl|rfl<;>rfl);go_wp2;go_ret2;exact⟨hg1,rfl⟩|inr rs=>go_enter func52,ntmps52;go_wp2_with fail;refine hp.mono ?_;intro e w1 aJ;obtain⟨hg1,u,rfl,hu⟩:=Aa KEY e w1 aJ;obtain⟨ao,cap,rfl⟩:=hu.slice;clear aJ KEY hp;go_wp2;go_ret2;have a7:=AA w1 (.cells #[.slice ao rs.length cap,.slice none 0 0,.int .i64 0,.slice none 0 0] 172) none;refine⟨Ab hg1 a7,w1.heap.size,.slice ao rs.length cap,rfl,hg1.size,⟨w1,hu,AX _,a7⟩,AR _ _,?_,Q0B.nil _ _ Gr,by simp⟩;have wu:Q1K 0 (.slice ao rs.length cap) rs w1:=hu.weak (AG _);exact wu.none a7
theorem C2.al2(w:World)(x y u v:Value)(T T':TypeId):C2 T w.heap.size x y ((w.alloc (.cells #[x,y] T)).alloc (.cells #[u,v] T'))/\C2 T' (w.heap.size+1) u v ((w.alloc (.cells #[x,y] T)).alloc (.cells #[u,v] T')):=by constructor;{unfold C2;rw[DD _ _ _ (by simp)];exact AR _ _};{have:=AR (w.alloc (.cells #[x,y] T)) (.cells #[u,v] T');unfold C2;simpa using this}
theorem R3{x y:Int}{a b:List Int}:decide (x::a=y::b)=(decide (x=y)&&decide (a=b)):=by by_cases h1:x=y<;>by_cases h2:a=b<;>simp[h1,h2]
theorem Q1i(m k:VMt):decide (m.of=k.of)=(decide (m.rule=k.rule)&&decide (m.ids=k.ids)):=by unfold VMt.of;by_cases h1:m.rule=k.rule<;>by_cases h2:m.ids=k.ids<;>simp[h1,h2]
theorem Q29(a b:VMt)(aa ba:Option Addr)(ac bc:Nat)(w:World)(ha:Q0L 0 (.slice aa a.ids.length ac) a.ids w)(hb:Q0L 0 (.slice ba b.ids.length bc) b.ids w):Calls prog 122 #[.agg #[.int .i64 a.rule,.slice aa a.ids.length ac],.agg #[.int .i64 b.rule,.slice ba b.ids.length bc]] w λe w'=>e=.returned (.bool (decide (a.of=b.of)))/\w.grownBy w' none:=by rw[Q1i];have fC:=ha.le;unfold maxLen at fC;have a7:=Dq w (.cells #[.int .i64 a.rule,.slice aa a.ids.length ac] 52) (.cells #[.int .i64 b.rule,.slice ba b.ids.length bc] 52);obtain⟨hA,hB⟩:=C2.al2 w (.int .i64 a.rule) (.slice aa a.ids.length ac) (.int .i64 b.rule) (.slice ba b.ids.length bc) 52 52;by_cases hr:a.rule=b.rule;{(have hd:(a.rule !=b.rule)=false:=by simpa using hr);(have e1:decide (a.rule=b.rule)=true:=by simpa using hr);rw[e1,FB];clear e1 hr;by_cases hl:a.ids.length=b.ids.length;{(have bg:((a.ids.length:Int) !=(b.ids.length:Int))=false:=by simp;omega);(have HL:=Ac hl;have HA:=Ac ha;have HB:=Ac hb;obtain⟨R,hR⟩:∃R,decide (a.ids=b.ids)=R:=⟨_,rfl⟩);rw[hR];have HR:=Ac hR;clear hl ha hb hR;go_enter func122,ntmps122;go_wp2;go_loopw [5] (λx w'=>∃i:Nat,i<=a.ids.length/\x=.int .i64 i/\w.grownBy w' none/\C2 52 w.heap.size (.int .i64 a.rule) (.slice aa a.ids.length ac) w'/\C2 52 (w.heap.size+1) (.int .i64 b.rule) (.slice ba b.ids.length bc) w'/\decide (a.ids.drop i=b.ids.drop i)=R) (λx _=>a.ids.length-(intOf x).toNat);(case atStart=>exact⟨0,AG _,rfl,a7,hA,hB,Aa HR⟩);case round=>clear a7 hA hB HR;obtain⟨i,hi,rfl,hg,hA,hB,hR⟩:=hrel;obtain⟨a0,a1⟩:=hA.c;obtain⟨b0,b1⟩:=hB.c;by_cases hlt:i<a.ids.length;{(have cu:decide (i<a.ids.length)=true:=by simpa using hlt);(have hL:=Aa HL;have qo:i<b.ids.length:=by omega);(obtain⟨x,hx⟩:∃x,a.ids[i]?=some x:=⟨a.ids[i],AB hlt⟩);(obtain⟨y,hy⟩:∃y,b.ids[i]?=some y:=⟨b.ids[i],AB qo⟩);(rw[A0 hx,A0 hy,R3]at hR;obtain⟨g,cp,hv,hcs⟩:=((Aa HA).gr hg).cells hx;obtain⟨g2,UR,hv2,dW⟩:=((Aa HB).gr hg).cells hy;simp only[AH,BP]at hv hv2;obtain⟨rfl,rfl⟩:=hv;obtain⟨rfl,rfl⟩:=hv2;have x0:wr.cell? ⟨g,i,none⟩=some (.int .i64 x):=by have:=hcs 0 (by omega);simpa[C8]using this);(have y0:wr.cell? ⟨g2,i,none⟩=some (.int .i64 y):=by have:=dW 0 (by omega);simpa[C8]using this);clear hcs dW hx hy hL;by_cases e8:x=y;{(have ku:(x !=y)=false:=by simpa using e8);(have e2:decide (x=y)=true:=by simpa using e8);rw[e2,FB]at hR;have HR:=Ac hR;clear hR e2 e8;go_wp2;go_quiet (fail);go_wp2;go_roundw;(case rel=>exact⟨i+1,by omega,by go_num,Ab hg (Af _ _ _),hA,hB,Aa HR⟩);case measure=>simp[intOf];omega};{(have ku:(x !=y)=true:=by simpa using e8);(have e2:decide (x=y)=false:=by simpa using e8);rw[e2,DW]at hR;subst hR;clear e2 e8;go_wp2;go_quiet (fail);go_wp2;go_ret;exact⟨rfl,Ab hg (Af _ _ _)⟩}};{(have cu:decide (i<a.ids.length)=false:=by simpa using hlt);(have hL:=Aa HL;rw[BD (by omega),BD (by omega)]at hR;have hR2:true=R:=by simpa using hR);subst hR2;clear hR hL;go_wp2;go_ret;exact⟨rfl,hg⟩}};{(have bg:((a.ids.length:Int) !=(b.ids.length:Int))=true:=by simp;omega);(have e1:decide (a.ids=b.ids)=false:=by simp only[decide_eq_false_iff_not];intro h;exact hl (by rw[h]));rw[e1];clear e1 hl ha hb;go_enter func122,ntmps122;go_wp2;go_ret;exact⟨rfl,a7⟩}};{(have hd:(a.rule !=b.rule)=true:=by simpa using hr);(have e1:decide (a.rule=b.rule)=false:=by simpa using hr);rw[e1,DW];clear e1 hr ha hb;go_enter func122,ntmps122;go_wp2;go_ret;exact⟨rfl,a7⟩}
theorem Q1t(ms:List VMt)(v:Value)(x:VMt)(xa:Option Addr)(xc:Nat)(w:World)(cj:Q1C 0 v ms w)(hx:Q0L 0 (.slice xa x.ids.length xc) x.ids w):Calls prog 86 #[v,.agg #[.int .i64 x.rule,.slice xa x.ids.length xc]] w λe w'=>e=.returned (.bool (Dz (ms.map VMt.of) x.of))/\w.grownBy w' none:=by
 obtain⟨ao,cap,rfl⟩:=cj.slice;have hle:=cj.1.le;unfold maxLen at hle;have a7:=AA w (.cells #[.int .i64 x.rule,.slice xa x.ids.length xc] 52) none;have hX:C2 52 w.heap.size (.int .i64 x.rule) (.slice xa x.ids.length xc) (w.alloc (.cells #[.int .i64 x.rule,.slice xa x.ids.length xc] 52)):=AR _ _;have HM:=Ac cj;have HX:=Ac hx;obtain⟨R,hR⟩:∃R,Dz (ms.map VMt.of) x.of=R:=⟨_,rfl⟩
 rw[hR];have HR:=Ac hR;clear cj hx hR;go_enter func86,ntmps86;go_wp2;go_loopw [5] (λz w'=>∃i:Nat,i<=ms.length/\z=.int .i64 i/\w.grownBy w' none/\C2 52 w.heap.size (.int .i64 x.rule) (.slice xa x.ids.length xc) w'/\Dz ((ms.drop i).map VMt.of) x.of=R) (λz _=>ms.length-(intOf z).toNat);case atStart=>exact⟨0,AG _,rfl,a7,hX,Aa HR⟩
 case round=>clear a7 hX HR;obtain⟨i,hi,rfl,hg,hX,hR⟩:=hrel;obtain⟨x0,x1⟩:=hX.c;by_cases hlt:i<ms.length;{(have cu:decide (i<ms.length)=true:=by simpa using hlt);(obtain⟨m,hm⟩:∃m,ms[i]?=some m:=⟨ms[i],AB hlt⟩);rw[A0 hm,DF]at hR;obtain⟨g,cp,hv,hcs⟩:=((Aa HM).1.gr hg).cells hm;simp only[AH,BP]at hv;obtain⟨rfl,rfl⟩:=hv;have m0:wr.cell? ⟨g,i*2,none⟩=some (.int .i64 m.rule):=hcs 0 (by omega);have m1:wr.cell? ⟨g,i*2+1,none⟩=some m.v:=hcs 1 (by omega);have gS:=(Aa HM).2 m (AW hm);obtain⟨ma,mc,ie⟩:=gS.slice;rw[ie]at m1 gS;have hS:=λ(W:World) (hW:wr.grownBy W none)=>Q29 m x ma xa mc xc W (gS.gr (Ab hg hW)) ((Aa HX).gr (Ab hg hW));(have hR2:(decide (m.of=x.of)||Dz ((ms.drop (i+1)).map VMt.of) x.of)=R:=hR;have HR:=Ac hR2;clear hR hR2 hcs hm gS ie;obtain⟨d,hd⟩:∃d,decide (m.of=x.of)=d:=⟨_,rfl⟩);rw[hd]at hS;have HD:=Ac hd;clear hd;go_wp2_with fail;go_cut [6] (λs wx=>s=.bool d/\wr.grownBy wx none);(case first=>go_region_with (go_at_call 122;refine(hS _ (by repeat (first|exact AD _ _|apply Ah))).mono ?_;rintro e w2⟨rfl,hg2⟩);all_goals go_wp2_with fail;go_meet;exact⟨rfl,Ab (Ah (AD _ _)) hg2⟩);case rest=>obtain⟨rfl,hg2⟩:=hcut;have bQ:=Ab hg hg2;have uH:=hX.kept hg2 (by simp);have fZ:=Aa HR;rw[Aa HD]at fZ;clear HR HD hS hg2;cases d;{rw[FA]at fZ;have HR:=Ac fZ;clear fZ;go_wp2;go_roundw;(case rel=>exact⟨i+1,by omega,by go_num,bQ,uH,Aa HR⟩);case measure=>simp[intOf];omega};{rw[Bool.true_or]at fZ;subst fZ;go_wp2;go_ret;exact⟨rfl,bQ⟩}};{(have cu:decide (i<ms.length)=false:=by simpa using hlt);rw[BD (by omega)]at hR;have hR2:false=R:=hR;subst hR2;clear hR;go_wp2;go_ret;exact⟨rfl,hg⟩}
theorem YAt.rowOk{rs:List Q0C}{L:List VTh}(h:YAt y rv lv cv fv rs L w):Q0H 0 172 (some y) w:=by intro g hg;simp only[AE]at hg;subst hg;exact⟨AG _,_,_,h.blk⟩
theorem YAt.fz{rs:List Q0C}{L:List VTh}(h:YAt y rv lv cv fv rs L w)(o:Nat):w.frozen? ⟨y,o,none⟩=false:=by have:=h.blk;simp[World.frozen?,this]
theorem YAt.set3{rs:List Q0C}{L:List VTh}(h:YAt y rv lv cv fv rs L w)(u:Value):YAt y rv lv cv u rs L (w.setCell ⟨y,3,none⟩ u):=by have hg:=Aj w y 3 u;refine⟨?_,h.rules.row hg h.rowOk (by decide) (by decide) (by decide),h.facts.row hg h.rowOk (by decide),λt ht=>⟨(h.vals t ht).1.row hg h.rowOk (by decide),(h.vals t ht).2⟩⟩;rw[BB w y 3 _ _ _ h.blk];rfl
theorem Q1C.ybl{ms:List VMt}(h:Q1C base v ms w){rs:List Q0C}{L:List VTh}(hy:YAt y rv lv cv fv rs L w)(hg:w.grownBy w' (some y)):Q1C base v ms w':=
 ⟨h.1.row hg hy.rowOk (by decide),λm hm=>(h.2 m hm).row hg hy.rowOk (by decide)⟩
theorem Q1C.weak{base base':Nat}{v:Value}{ms:List VMt}{w:World}(h:Q1C base v ms w)(hb:base'<=base):Q1C base' v ms w:=⟨h.1.weak hb,λm hm=>(h.2 m hm).weak hb⟩
theorem I2(p:α->Bool)(a:α):[a].filter p=if p a=true then [a]else []:=by cases h:p a<;>simp[h]
def Iq(y:Nat)(rv lv cv:Value)(rs:List Q0C)(L:List VTh)(fd:List VMt)(w:World)(e:Ending)(w':World):Prop:=
 e=.returned (.tuple #[])/\w.grownBy w' (some y)/\∃ae iO,YAt y rv lv cv ae rs L w'/\Q1C 0 ae iO w'/\iO.map VMt.of=Bh (Ak rs (L.map VTh.of)) (fd.map VMt.of)/\(∀m∈iO,m∈fd)/\∀g,ae.ownBlock=some g->w.heap.size<=g
theorem Pv(y:Nat)(rv lv cv fv:Value)(rs:List Q0C)(L:List VTh)(w:World)(hy:YAt y rv lv cv fv rs L w)(hf:Q1C 0 fv [] w):Calls prog 85 #[.pointer (some ⟨y,0,none⟩)] w λe w'=>Iq y rv lv cv rs L [] w e w':=by obtain⟨ao,cap,rfl⟩:=hf.slice;obtain⟨y0,y1,y2,y3⟩:=hy.c;have z3:=hy.fz 3;have HY:=Ac hy;clear hy y0 y1 y2;go_enter func85,ntmps85;go_wp2;go_end0;exact⟨rfl,Aj w y 3 _,.slice none 0 0,[],(Aa HY).set3 _,⟨Q0B.nil _ _ Cy,by simp⟩,rfl,by simp,by simp[Value.ownBlock]⟩
theorem Pw(y:Nat)(rv lv cv fv:Value)(rs:List Q0C)(L:List VTh)(fd:List VMt)(w:World)(hy:YAt y rv lv cv fv rs L w)(aI:Q1S rs)(hL:L.length<=16)(hf:Q1C 0 fv fd w)(hne:0<fd.length)(hfb:fd.length<=1000000):Calls prog 85 #[.pointer (some ⟨y,0,none⟩)] w λe w'=>Iq y rv lv cv rs L fd w e w':=by
 obtain⟨ao,cap,rfl⟩:=hf.slice;obtain⟨y0,y1,y2,y3⟩:=hy.c;have hd:decide ((0:Int)<(fd.length:Int))=true:=by simp;omega
 have hM:=G5 y rv lv cv _ rs L w hy aI hL;have HY:=Ac hy;have HF:=Ac hf;have kH:=Ac hne;clear hy hf y0 y1 y2 aI hne;go_enter func85,ntmps85;go_wp2_with fail;refine hM.mono ?_;rintro e w1⟨u,ms,rfl,cj,hmap,hg1⟩;obtain⟨aoM,yS,rfl⟩:=cj.slice;have HMS:=Ac (cj.weak (AG _));have yj:=Ac hmap;clear hmap hM cj;go_wp2;go_loopw [2,4] (λx z w'=>∃(i:Nat) (acc:List VMt),i<=fd.length/\z=.int .i64 i/\w1.grownBy w' none/\Q0B 52 2 mtenc w1.heap.size x acc w'/\(∀m∈acc,m∈fd)/\acc.length<=i/\acc.map VMt.of=Bh (ms.map VMt.of) ((fd.take i).map VMt.of)) (λ_ z _=>fd.length-(intOf z).toNat);case atStart=>exact⟨0,[],AG _,rfl,AD _ _,Q0B.nil _ _ Cy,by simp,AX _,by simp[Bh]⟩
 case round=>obtain⟨i,acc,hi,rfl,hg,aV,dD,vn,hk⟩:=hrel;obtain⟨lN,eG,rfl⟩:=aV.slice;have hg0:=Ab hg1 hg;have y3':=hg0.cell y3 (by simp);have VC:=Ac dD;have HK:=Ac hk;clear dD hk;by_cases hlt:i<fd.length;{(have cu:decide (i<fd.length)=true:=by simpa using hlt);(obtain⟨m,hm⟩:∃m,fd[i]?=some m:=⟨fd[i],AB hlt⟩);have hmm:=AW hm;obtain⟨g,cp,hv,hcs⟩:=((Aa HF).1.gr hg0).cells hm;simp only[AH,BP]at hv;obtain⟨rfl,rfl⟩:=hv;have m0:wr.cell? ⟨g,i*2,none⟩=some (.int .i64 m.rule):=hcs 0 (by omega);have m1:wr.cell? ⟨g,i*2+1,none⟩=some m.v:=hcs 1 (by omega);have gS:=(Aa HF).2 m hmm;obtain⟨ma,mc,ie⟩:=gS.slice;rw[ie]at m1 gS;have hH:=Q1t ms _ m ma mc wr ((Aa HMS).gr hg) (gS.gr hg0);(have hst:Bh (ms.map VMt.of) ((fd.take (i+1)).map VMt.of)=acc.map VMt.of++(if Dz (ms.map VMt.of) m.of=true then [m.of]else []):=by rw[Dd VMt.of fd i m hm,Aa HK];unfold Bh;rw[DJ];congr 1;exact I2 _ _);(obtain⟨d,bg⟩:∃d,Dz (ms.map VMt.of) m.of=d:=⟨_,rfl⟩);rw[bg]at hst hH;have HST:=Ac hst;have HMM:=Ac hmm;have wP:=Ac ie;clear hst hcs hm gS bg HK hmm ie;go_wp2_with fail;refine hH.mono ?_;rintro e w2⟨rfl,hg2⟩;have bQ:=Ab hg hg2;have cg:=aV.gr hg2;have y32:=hg2.cell y3' (by simp);have m02:=hg2.cell m0 (by simp);have m12:=hg2.cell m1 (by simp);clear hH hg hg2 aV y3' m0 m1 hg0;cases d;{have hst:=Aa HST;simp only[CB,if_false,BM]at hst;have HS2:=Ac hst;clear hst HST;go_wp2;go_roundw;(case rel=>exact⟨i+1,acc,by omega,by go_num,bQ,cg,Aa VC,by omega,(Aa HS2).symm⟩);case measure=>simp[intOf];omega};{have hst:=Aa HST;simp only[if_true]at hst;have HS2:=Ac hst;clear hst HST;have a7:=AA w2 (.cells #[.int .i64 m.rule,.slice ma m.ids.length mc] 52) none;have jK:=cg.gr a7;have aC:Q0B 52 2 mtenc 0 _ [m] (w2.alloc (.cells #[.int .i64 m.rule,.slice ma m.ids.length mc] 52)):=(Q0B.lit1 Cy w2 m #[.int .i64 m.rule,.slice ma m.ids.length mc] (by unfold mtenc;rw[Aa wP])).weak (AG _);(have bm:∀k∈[m],∀c∈mtenc k,c.oneCell'=true:=by intro k hk;simp only[AZ]at hk;subst hk;exact Gp k (by rw[Aa wP];rfl));have eX:=Ac bm;clear bm;have fH:=jK.own;have WG:=AU bQ.size a7.size;go_wp2_with (at_builtin;refine Df rfl _ _ 43 rfl underlying43 Q1I rfl (by decide) rfl jK rfl aC (Aa eX) (by unfold maxLen;simp;omega) (by simp;omega) WG ?_);intro v5 w5 aj aW;obtain⟨UW,uZ,rfl⟩:=aj.slice;have jb:=C7 (Ab bQ a7) aW (λx hx=>(fH x hx).1);clear aC eX jK fH a7 aW;go_wp2;go_roundw;(case rel=>refine⟨i+1,acc++[m],by omega,by go_num,jb,aj,?_,by simp;omega,?_⟩;{intro k hk;rcases BA.1 hk with hk|hk;{exact Aa VC k hk};{simp only[AZ]at hk;subst hk;exact Aa HMM}};{rw[BZ,Aa HS2];rfl});case measure=>simp[intOf];omega}};{(have cu:decide (i<fd.length)=false:=by simpa using hlt);(have hall:fd.take i=fd:=BX (by omega);have hk:=Aa HK;rw[hall,Aa yj]at hk;have kI:=Ac hk;clear hk hall HK;have hy':=(Aa HY).gr hg0;have z3:=hy'.fz 3;have XH:Q1C 0 (.slice lN acc.length eG) acc wr:=⟨aV.weak (AG _),λm hm=>((Aa HF).2 m (Aa VC m hm)).gr hg0⟩);have fH:=aV.own;have gI:=hg1.size;go_wp2;go_end0;have aX:=Aj wr y 3 (.slice lN acc.length eG);exact⟨rfl,Ab (Ba hg0 _) aX,_,acc,hy'.set3 _,XH.ybl hy' aX,Aa kI,Aa VC,λg aq=>by have:=(fH g aq).1;omega⟩}
theorem Px(y:Nat)(rv lv cv fv:Value)(rs:List Q0C)(L:List VTh)(fd:List VMt)(w:World)(hy:YAt y rv lv cv fv rs L w)(aI:Q1S rs)(hL:L.length<=16)(hf:Q1C 0 fv fd w)(hfb:fd.length<=1000000):Calls prog 85 #[.pointer (some ⟨y,0,none⟩)] w λe w'=>Iq y rv lv cv rs L fd w e w':=by cases fd with|nil=>exact Pv y rv lv cv fv rs L w hy hf|cons m fd=>exact Pw y rv lv cv fv rs L (m::fd) w hy aI hL hf (by simp) hfb
structure VFt where
 kind:Int
 v:Value
 vals:List Int
def ftenc(f:VFt):List Value:=[.int .i64 f.kind,f.v]
theorem Cx(f:VFt):(ftenc f).length=2:=rfl
theorem Q1Q:(prog.info? 37).map (λi=>(i.zero,i.size,i.bytes))=some (some (.agg #[.int .i64 0,.slice none 0 0]),2,32):=by kernel_rfl
def InH(t:Nat):Prop:=13<=t/\t%3=1
structure Hand(T:Nat->Nat)(e:TypeId)(v:Value)(xs:List VFt)(w:World):Prop where
 row:Q0Q T 13 e 2 ftenc v xs w
 els:∀i x,xs[i]?=some x->Q0Q T (13+3*(i+1)) 3 1 C8 x.v x.vals w/\x.vals.length<=1000000
def VTh.ft(t:VTh):VFt:=⟨t.kind,t.v,t.vals⟩
theorem Q3N:(prog.info? 176).map (λi=>(i.zero,i.size,i.bytes))=some (some (.agg #[.int .i64 0,.int .i64 0,.slice none 0 0]),3,40):=by kernel_rfl
def Vc(L:List VTh)(w:World)(e:Ending)(w':World):Prop:=
 ∃a l,e=.returned (.tuple #[a,l])/\Q0L w.heap.size a (L.map VTh.id) w'/\Q0B 37 2 ftenc w.heap.size l (L.map VTh.ft) w'/\w.grownBy w' none
theorem Q0V.none(h:Q0V v [] w):Q0V v [] w':=by rcases h with h1|⟨a,cap,h1,h2,_⟩;{exact .inl h1};{exact .inr ⟨a,cap,h1,h2,by simp⟩}
theorem Q0V.kept'(h:Q0V v l w)(hg:w.grownBy w' row)(hne:l≠[]->∀g,v.ownBlock=some g->row≠some g):Q0V v l w':=by by_cases hl:l=[];{subst hl;exact h.none};{exact h.kept hg (hne hl)}
theorem Q0z(y:Nat)(rv lv cv fv:Value)(rs:List Q0C)(L:List VTh)(w:World)(hy:YAt y rv lv cv fv rs L w)(hL:L.length<=16):Calls prog 81 #[.pointer (some ⟨y,0,none⟩)] w λe w'=>Vc L w e w':=by
 obtain⟨y0,y1,y2,y3⟩:=hy.c;obtain⟨qA,gN,rfl⟩:=hy.facts.slice;have HY:=Ac hy;clear hy y0 y2 y3;go_enter func81,ntmps81;go_wp2;go_loopw [4,5,6] (λa l z w'=>∃i:Nat,i<=L.length/\z=.int .i64 i/\w.grownBy w' none/\Q0L w.heap.size a ((L.take i).map VTh.id) w'/\Q0B 37 2 ftenc w.heap.size l ((L.take i).map VTh.ft) w') (λ_ _ z _=>L.length-(intOf z).toNat);case atStart=>exact⟨0,AG _,rfl,AD _ _,Q0B.nil _ _ Av,Q0B.nil _ _ Cx⟩
 case round=>obtain⟨i,hi,rfl,hg,ha,hl⟩:=hrel;by_cases hlt:i<L.length;{(have cu:decide (i<L.length)=true:=by simpa using hlt);(obtain⟨t,ht⟩:∃t,L[i]?=some t:=⟨L[i],AB hlt⟩);(have um:=hg.cell y1 (by simp);obtain⟨g,cp,hv,hcs⟩:=((Aa HY).facts.gr hg).cells ht;simp only[AH,BP]at hv;obtain⟨rfl,rfl⟩:=hv;have t0:wr.cell? ⟨g,i*3,none⟩=some (.int .i64 t.id):=hcs 0 (by omega);have t1:wr.cell? ⟨g,i*3+1,none⟩=some (.int .i64 t.kind):=hcs 1 (by omega);have t2:wr.cell? ⟨g,i*3+2,none⟩=some t.v:=hcs 2 (by omega);obtain⟨ma,mc,ie⟩:=((Aa HY).vals t (AW ht)).1.slice;rw[ie]at t2;have e1:=Dd VTh.id L i t ht;have e2:=Dd VTh.ft L i t ht;generalize hA:(L.take i).map VTh.id=A at *;generalize hB:(L.take i).map VTh.ft=B at *;have UN:A.length=i:=by rw[<-hA,AY,BK];omega);(have hBl:B.length=i:=by rw[<-hB,AY,BK];omega);(have hA16:A.length<=16:=by omega);(have hB16:B.length<=16:=by omega);have yt:=Ac e1;have pV:=Ac e2;have wP:=Ac ie;clear e1 e2 hA hB UN hBl hcs ht ie;obtain⟨lN,eG,rfl⟩:=ha.slice;obtain⟨aoB,capB,rfl⟩:=hl.slice;have a7:=AA wr (.cells #[.int .i64 t.id] 3) none;have ha2:=ha.gr a7;have hl2:=hl.gr a7;have aC:Q0L 0 _ [t.id] (wr.alloc (.cells #[.int .i64 t.id] 3)):=(Q0B.lit1 Av wr t.id #[.int .i64 t.id] rfl).weak (AG _);have hsz:=AU hg.size a7.size;have fH:=ha2.own;have hro:=Q0H.of ha2.2;have yz:=a7.cell um (by simp);have t12:=a7.cell t1 (by simp);have t22:=a7.cell t2 (by simp);have ag:=Ab hg a7;have tI:y<w.heap.size:=Ad (Aa HY).blk;(have hglt:g<w.heap.size:=by have:=(Aa HY).facts.own g rfl;exact this.2);go_wp2_with (at_builtin;refine Df rfl _ _ 35 rfl underlying35 Q0I rfl (by decide) rfl ha2 rfl aC (λy _=>Cb y) (by unfold maxLen;simp;omega) (by simp;omega) hsz ?_);intro v5 w5 aj aW;have jb:=C7 ag aW (λx hx=>(fH x hx).1);have aK:=hl2.row aW hro (by decide);have y15:=aW.cell yz (λe=>by have:=fH _ e.symm;simp at this;omega);have t15:=aW.cell t12 (λe=>by have:=fH _ e.symm;simp at this;omega);have t25:=aW.cell t22 (λe=>by have:=fH _ e.symm;simp at this;omega);obtain⟨gV,aG,rfl⟩:=aj.slice;clear a7 ha2 hl2 aC hsz fH hro yz t12 t22 aW ha hl ag;have aO:=AA w5 (.cells #[.int .i64 t.kind,.slice ma t.vals.length mc] 37) none;have pC:=aK.gr aO;have LR:=aj.gr aO;have aC:Q0B 37 2 ftenc 0 _ [t.ft] (w5.alloc (.cells #[.int .i64 t.kind,.slice ma t.vals.length mc] 37)):=(Q0B.lit1 Cx w5 t.ft #[.int .i64 t.kind,.slice ma t.vals.length mc] (by unfold ftenc VTh.ft;rw[Aa wP])).weak (AG _);(have bm:∀k∈[t.ft],∀c∈ftenc k,c.oneCell'=true:=by intro k hk;simp only[AZ]at hk;subst hk;intro c hc;simp[ftenc,VTh.ft,Aa wP]at hc;rcases hc with rfl|rfl<;>rfl);have eX:=Ac bm;clear bm;have hsz:=AU jb.size aO.size;have fH:=pC.own;have hro:=Q0H.of pC.2;go_wp2_with (at_builtin;refine Df rfl _ _ 47 rfl underlying47 Q1Q rfl (by decide) rfl pC rfl aC (Aa eX) (by unfold maxLen;simp;omega) (by simp;omega) hsz ?_);intro v7 w7 iY cq;have YA:=C7 (Ab jb aO) cq (λx hx=>(fH x hx).1);have ha7:=LR.row cq hro (by decide);obtain⟨ao7,au,rfl⟩:=iY.slice;rw[AL,BC]at ha7;clear aO aK pC aj LR aC eX hsz fH hro cq jb y15 t15 t25;go_wp2;go_roundw;(case rel=>exact⟨i+1,by omega,by go_num,YA,by rw[Aa yt];exact ha7,by rw[Aa pV];exact iY⟩);case measure=>simp[intOf];omega};{(have cu:decide (i<L.length)=false:=by simpa using hlt);have hall:L.take i=L:=BX (by omega);rw[hall]at ha hl;have um:=hg.cell y1 (by simp);clear hall;obtain⟨lN,eG,rfl⟩:=ha.slice;obtain⟨aoB,capB,rfl⟩:=hl.slice;go_wp2;go_ret2;exact⟨_,_,rfl,ha,hl,hg⟩}
theorem YAt.set2{rs:List Q0C}{L:List VTh}(h:YAt y rv lv cv fv rs L w)(u:Value):YAt y rv lv u fv rs L (w.setCell ⟨y,2,none⟩ u):=by have hg:=Aj w y 2 u;refine⟨?_,h.rules.row hg h.rowOk (by decide) (by decide) (by decide),h.facts.row hg h.rowOk (by decide),λt ht=>⟨(h.vals t ht).1.row hg h.rowOk (by decide),(h.vals t ht).2⟩⟩;rw[BB w y 2 _ _ _ h.blk];rfl
theorem YAt.push{rs:List Q0C}{L:List VTh}{W w5:World}{th:VTh}{nv:Value}(hy:YAt y rv lv cv fv rs L W)(ht:Q0L 0 th.v th.vals W)(dY:th.vals.length<=4) (hv:Q0B 176 3 Hk 0 nv (L++[th]) w5)(hg:W.grownBy w5 lv.ownBlock):w5.cell? ⟨y,1,none⟩=some lv/\w5.frozen? ⟨y,1,none⟩=false/\W.grownBy w5 lv.ownBlock/\Q0H 0 176 lv.ownBlock W/\Q0H 0 172 (some y) w5/\YAt y rv nv cv fv rs (L++[th]) (w5.setCell ⟨y,1,none⟩ nv):=by
 have hrow:=Q0H.of hy.facts.2;have hne:some y≠lv.ownBlock:=by intro e;obtain⟨_,cur,fz,h⟩:=hrow y e.symm;rw[hy.blk]at h;simp at h
 have hb:w5.heap[y]?=some (.cells #[rv,lv,cv,fv] 172 (0,0)):=by rw[hg.block y (Ad hy.blk) hne];exact hy.blk
 have hro:=Q0H.blk hb;have aX:=Aj w5 y 1 nv;refine⟨by simp[World.cell?,hb],by simp[World.frozen?,hb],hg,hrow,hro,?_,?_,?_,?_⟩;{rw[BB w5 y 1 _ _ _ hb];rfl};{exact(hy.rules.row hg hrow (by decide) (by decide) (by decide)).row aX hro (by decide) (by decide) (by decide)};{exact hv.row aX hro (by decide)};{intro t ic;rcases BA.1 ic with h|h;{exact⟨(((hy.vals t h).1).row hg hrow (by decide)).row aX hro (by decide),(hy.vals t h).2⟩};{simp only[AZ]at h;subst h;exact⟨(ht.row hg hrow (by decide)).row aX hro (by decide),dY⟩}}
def Q4z(y:Nat)(rv lv:Value)(cnt:Int)(rs:List Q0C)(L:List VTh)(fd:List VMt)(f:Q0E)(w:World)(e:Ending)(w':World):Prop:=
 e=.returned (.tuple #[.int .i64 (cnt+1),.int .i64 0])/\GrS (λk=>k=y\/lv.ownBlock=some k) w w'/\
  ∃ew ae t iO,t.id=cnt+1/\t.kind=f.kind/\t.vals=f.vals/\YAt y rv ew (.int .i64 (cnt+1)) ae rs (L++[t]) w'/\Q1C 0 ae iO w'/\
   iO.map VMt.of=Bh (Ak rs ((L++[t]).map VTh.of)) (fd.map VMt.of)/\(∀m∈iO,m∈fd)/\
   (∀g,ew.ownBlock=some g->lv.ownBlock=some g\/w.heap.size<=g)/\(∀g,t.v.ownBlock=some g->w.heap.size<=g)/\(∀g,ae.ownBlock=some g->w.heap.size<=g)
theorem Q27(y:Nat)(rv lv cv fv:Value)(rs:List Q0C)(L:List VTh)(f:Q0E)(fa:Option Addr)(fc:Nat)(w:World)(hy:YAt y rv lv cv fv rs L w)(hL:L.length<=16)(hf:Q0V (.slice fa f.vals.length fc) f.vals w)(hn:Au f=false\/16<=L.length):Calls prog 80 #[.pointer (some ⟨y,0,none⟩),.agg #[.int .i64 f.kind,.slice fa f.vals.length fc]] w λe w'=>e=.returned (.tuple #[.int .i64 0,.int .i64 (if Au f=false then 3 else 4)])/\w.grownBy w' none:=by
 have a7:=AA w (.cells #[.int .i64 f.kind,.slice fa f.vals.length fc] 37) none;have hF:C2 37 w.heap.size (.int .i64 f.kind) (.slice fa f.vals.length fc) (w.alloc (.cells #[.int .i64 f.kind,.slice fa f.vals.length fc] 37)):=AR _ _;obtain⟨qA,gN,rfl⟩:=hy.facts.slice;obtain⟨y0,y1,y2,y3⟩:=hy.c;have hV:=Yi f fa fc _ (hf.gr a7) hf.le;clear hy y0 y2 y3 hf;obtain⟨d,hd⟩:∃d,Au f=d:=⟨_,rfl⟩
 rw[hd]at hV hn⊢;clear hd;cases d;{clear hn;go_enter func80,ntmps80;go_wp2_with fail;refine hV.mono ?_;rintro e w1⟨rfl,hg1⟩;go_wp2;go_ret2;exact⟨rfl,Ab a7 hg1⟩};{(have yQ:16<=L.length:=by simpa using hn);(have bg:decide ((16:Int)<=(L.length:Int))=true:=by simp;omega);clear hn;go_enter func80,ntmps80;go_wp2_with fail;refine hV.mono ?_;rintro e w1⟨rfl,hg1⟩;have yz:=(Ab a7 hg1).cell y1 (by simp);go_wp2;go_ret2;exact⟨rfl,Ab a7 hg1⟩}
theorem Q0y(y:Nat)(rv lv fv:Value)(cnt:Int)(hc0:0<=cnt)(hc1:cnt<=4611686018427387904)(rs:List Q0C)(L:List VTh)(fd:List VMt)(f:Q0E)(fa:Option Addr)(fc:Nat)(w:World)(hy:YAt y rv lv (.int .i64 cnt) fv rs L w)(aI:Q1S rs)(hL:L.length<16)(je:Q1C 0 fv fd w)(hfb:fd.length<=1000000)(hf:Q0V (.slice fa f.vals.length fc) f.vals w)(TR:f.vals≠[]->(Value.slice fa f.vals.length fc).ownBlock≠some y)(hn:Au f=true):Calls prog 80 #[.pointer (some ⟨y,0,none⟩),.agg #[.int .i64 f.kind,.slice fa f.vals.length fc]] w λe w'=>Q4z y rv lv cnt rs L fd f w e w':=by
 have h4:f.vals.length<=4:=by unfold Au at hn;simp at hn;omega
 have a7:=AA w (.cells #[.int .i64 f.kind,.slice fa f.vals.length fc] 37) none;have hF:C2 37 w.heap.size (.int .i64 f.kind) (.slice fa f.vals.length fc) (w.alloc (.cells #[.int .i64 f.kind,.slice fa f.vals.length fc] 37)):=AR _ _;obtain⟨qA,gN,rfl⟩:=hy.facts.slice;have tI:y<w.heap.size:=Ad hy.blk;have hV:=Yi f fa fc _ (hf.gr a7) hf.le;rw[hn]at hV;have bg:decide ((16:Int)<=(L.length:Int))=false:=by simp;omega
 have HY:=Ac hy;have HO:=Ac aI;have HFD:=Ac je;have HF:=Ac hf;have HFY:=Ac TR;clear hy hf TR je aI hn;go_enter func80,ntmps80;go_wp2_with fail;refine hV.mono ?_;rintro e w1⟨rfl,hg1⟩;have bE:=Ab a7 hg1;have hy1:=(Aa HY).gr bE;have jB:=hF.kept hg1 (by simp);obtain⟨y0,y1,y2,y3⟩:=hy1.c;have z2:=hy1.fz 2;obtain⟨f0,f1⟩:=jB.c;have f02:(w1.setCell ⟨y,2,none⟩ (.int .i64 (cnt+1))).cell? ⟨w.heap.size,0,none⟩=some (.int .i64 f.kind):=(Aj w1 y 2 _).cell f0 (by simp;omega);have f12:(w1.setCell ⟨y,2,none⟩ (.int .i64 (cnt+1))).cell? ⟨w.heap.size,1,none⟩=some (.slice fa f.vals.length fc):=(Aj w1 y 2 _).cell f1 (by simp;omega);clear hV a7 hF hg1;have aX:=Aj w1 y 2 (.int .i64 (cnt+1));have hy2:=hy1.set2 (.int .i64 (cnt+1));have hf2:=((Aa HF).gr bE).kept' aX (λhne g hg e=>Aa HFY hne (by rw[hg,<-e]));have OO:=((Aa HFD).gr bE).ybl hy1 aX;have bI:GrS (λk=>k=y\/(Value.slice qA L.length gN).ownBlock=some k) w (w1.setCell ⟨y,2,none⟩ (.int .i64 (cnt+1))):=(GrS.of bE (by simp)).then aX (λg hg=>by simp at hg;exact .inr (.inl hg.symm));have HC:=Yh f fa fc _ hf2 h4;go_wp2_with fail;refine HC.mono ?_;rintro e w3⟨ao,cap,rfl,hg3,hv3⟩;have hy3:=hy2.gr hg3;have YJ:=OO.gr hg3;have jo:=bI.then hg3 (by simp);have bV:=hv3.own;have WQ:=bE.size;clear aX hy2 hf2 OO HC hg3 bE hy1 jB y0 y1 y2 y3 z2 f0 f1 f02 f12 bI;have a7:=AA w3 (.cells #[.int .i64 f.kind,.slice ao f.vals.length cap] 37) none;have sT:=hy3.gr a7;obtain⟨y0,y1,y2,y3⟩:=sT.c;have hN7:C2 37 w3.heap.size (.int .i64 f.kind) (.slice ao f.vals.length cap) (w3.alloc (.cells #[.int .i64 f.kind,.slice ao f.vals.length cap] 37)):=AR _ _;obtain⟨n0,n1⟩:=hN7.c;have y1b:=(sT.gr (AA (w3.alloc (.cells #[.int .i64 f.kind,.slice ao f.vals.length cap] 37)) (.cells #[.int .i64 (cnt+1),.int .i64 f.kind,.slice ao f.vals.length cap] 176) none)).c.2.1;obtain⟨th,gP⟩:∃th:VTh,th=⟨cnt+1,f.kind,.slice ao f.vals.length cap,f.vals⟩:=⟨_,rfl⟩
 have aO:=Ah (AA (w3.alloc (.cells #[.int .i64 f.kind,.slice ao f.vals.length cap] 37)) (.cells #[.int .i64 (cnt+1),.int .i64 f.kind,.slice ao f.vals.length cap] 176) none);have qI:=sT.gr aO;have bG:=(jo.then a7 (by simp)).then aO (by simp);have kt:=(YJ.gr a7).gr aO;have aj:=(hv3.gr a7).gr aO;have aC:Q0B 176 3 Hk 0 _ [th] ((w3.alloc (.cells #[.int .i64 f.kind,.slice ao f.vals.length cap] 37)).alloc (.cells #[.int .i64 (cnt+1),.int .i64 f.kind,.slice ao f.vals.length cap] 176)).drew:=((Q0B.lit1 Gr (w3.alloc (.cells #[.int .i64 f.kind,.slice ao f.vals.length cap] 37)) th #[.int .i64 (cnt+1),.int .i64 f.kind,.slice ao f.vals.length cap] (by rw[gP];rfl)).weak (AG _)).heap rfl;have LY:(w3.alloc (.cells #[.int .i64 f.kind,.slice ao f.vals.length cap] 37)).heap.size=w3.heap.size+1:=by simp
 rw[LY]at aC;have bm:∀k∈[th],∀c∈Hk k,c.oneCell'=true:=by intro k hk;simp only[AZ]at hk;subst hk;intro c hc;rw[gP]at hc;simp[Hk]at hc;rcases hc with rfl|rfl|rfl<;>rfl
 have hb1:L.length + [th].length<=maxLen:=by unfold maxLen;simp;omega
 have hb2:(L.length + [th].length)*40<=140737488355328:=by simp;omega
 have eX:=Ac bm;have fP:=Ac hb1;have fq:=Ac hb2;have hrow:=Q0H.of qI.facts.2;have hylt3:y≠w3.heap.size:=by have:=jo.size;omega
 have zk:=Ac gP;clear bm hb1 hb2 LY gP;obtain⟨W5,gC⟩:∃W5,((w3.alloc (.cells #[.int .i64 f.kind,.slice ao f.vals.length cap] 37)).alloc (.cells #[.int .i64 (cnt+1),.int .i64 f.kind,.slice ao f.vals.length cap] 176)).drew=W5:=⟨_,rfl⟩
 rw[gC]at qI bG kt aj aC hrow;have HW5:=Ac gC;clear gC;have zI:Q0L 0 th.v th.vals W5:=by rw[Aa zk];exact aj.weak (AG _)
 have dY:th.vals.length<=4:=by rw[Aa zk];exact h4
 have lG:∀g5 aG w5,Q0B 176 3 Hk 0 (.slice (some ⟨g5,0,none⟩) (L++[th]).length aG) (L++[th]) w5->W5.grownBy w5 (Value.slice qA L.length gN).ownBlock->((Value.slice qA L.length gN).ownBlock=some g5\/g5=W5.heap.size)->w5.cell? ⟨y,1,none⟩=some (.slice qA L.length gN)/\w5.frozen? ⟨y,1,none⟩=false/\(∃ew,(YAt y rv ew (.int .i64 (cnt+1)) fv rs (L++[th]) (w5.setCell ⟨y,1,none⟩ (.slice (some ⟨g5,0,none⟩) (L.length+1) aG))/\GrS (λk=>k=y\/(Value.slice qA L.length gN).ownBlock=some k) w (w5.setCell ⟨y,1,none⟩ (.slice (some ⟨g5,0,none⟩) (L.length+1) aG))/\Q1C 0 fv fd (w5.setCell ⟨y,1,none⟩ (.slice (some ⟨g5,0,none⟩) (L.length+1) aG))/\∀g,ew.ownBlock=some g->(Value.slice qA L.length gN).ownBlock=some g\/w.heap.size<=g)):=by intro g5 aG w5 hv hg hl;rw[AL,BC]at hv;obtain⟨k1,k2,k3,k4,k5,k6⟩:=qI.push zI dY hv hg;have aX:=Aj w5 y 1 (.slice (some ⟨g5,0,none⟩) (L.length+1) aG);refine⟨k1,k2,_,k6,(bG.then hg (λg aq=>.inr (.inr aq))).then aX (λg aq=>by simp at aq;exact .inr (.inl aq.symm)),?_,?_⟩;{exact⟨(kt.1.row hg k4 (by decide)).row aX k5 (by decide),λm hm=>((kt.2 m hm).row hg k4 (by decide)).row aX k5 (by decide)⟩};{intro g aq;simp only[Value.ownBlock,AE]at aq;subst aq;rcases hl with hl|hl;{exact .inl hl};{right;have:=bG.size;omega}}
 have HKEY:=Ac lG;have fO:=Ac aC;have HY5:=Ac qI;clear lG aC qI bG kt aj hrow zI dY aO;go_wp2_with fail;go_cut [] (λwx=>∃ew,(YAt y rv ew (.int .i64 (cnt+1)) fv rs (L++[th]) wx/\GrS (λk=>k=y\/(Value.slice qA L.length gN).ownBlock=some k) w wx/\Q1C 0 fv fd wx/\∀g,ew.ownBlock=some g->(Value.slice qA L.length gN).ownBlock=some g\/w.heap.size<=g));case first=>go_region_law (rw[Aa HW5];refine Ne rfl _ _ 170 rfl underlying170 Q3N rfl (by decide) (by simp[Act.eval]) (Aa HY5).facts (by simp[Act.eval]) (Aa fO) (by simp) (Aa eX) (Aa fP) (Aa fq) (AG _) ?_;intro g5 aG w5 aj aW aK;obtain⟨k1,k2,k3⟩:=Aa HKEY g5 aG w5 aj aW aK;have K3:=Ac k3;clear k3);all_goals go_wp2_with fail;go_meet;exact Aa K3
 case rest=>(obtain⟨ew,pX,dX,YI,XI⟩:=hcut;have gK:(L++[th]).length<=16:=by simp;omega);have hV:=Px y rv ew _ fv rs (L++[th]) fd wc pX (Aa HO) gK YI hfb;have TD:=dX.size;have hs1:w.heap.size<=w1.heap.size:=WQ;clear gK y0 y1 y1b y2 y3 n0 n1 hN7 sT a7;go_wp2_with fail;refine hV.mono ?_;rintro e w7⟨rfl,cq,ae,iO,LJ,YH,hmap,dD,hnew⟩;obtain⟨y0,y1,y2,y3⟩:=LJ.c;have ug:=Ac hmap;have HSUB:=Ac dD;have cV:=Ac hnew;clear hmap dD hnew hV;go_wp2;go_ret2;(refine⟨rfl,dX.then cq (λg hg=>by simp at hg;exact .inr (.inl hg.symm)),ew,ae,th,iO,by rw[Aa zk],by rw[Aa zk],by rw[Aa zk],LJ,YH,Aa ug,Aa HSUB,XI,?_,λg hg=>AU TD (Aa cV g hg)⟩;rw[Aa zk];intro g hg;have h1:=(bV g hg).1;have h2:w1.heap.size=(w1.setCell ⟨y,2,none⟩ (.int .i64 (cnt+1))).heap.size:=by simp[World.setCell]);omega
theorem Q7(a b:List Int)(u v:Value)(w:World)(ha:Q0L 0 u a w)(hb:Q0L 0 v b w):Calls prog 82 #[u,v] w λe w'=>e=.returned (.bool (decide (a=b)))/\w.grownBy w' none:=by obtain⟨aa,ac,rfl⟩:=ha.slice;obtain⟨ba,bc,rfl⟩:=hb.slice;have fC:=ha.le;unfold maxLen at fC;by_cases hl:a.length=b.length;{(have bg:((a.length:Int) !=(b.length:Int))=false:=by simp;omega);(have HL:=Ac hl;have HA:=Ac ha;have HB:=Ac hb;obtain⟨R,hR⟩:∃R,decide (a=b)=R:=⟨_,rfl⟩);rw[hR];have HR:=Ac hR;clear hl ha hb hR;go_enter func82,ntmps82;go_wp2;go_loopw [5] (λx w'=>∃i:Nat,i<=a.length/\x=.int .i64 i/\w.grownBy w' none/\decide (a.drop i=b.drop i)=R) (λx _=>a.length-(intOf x).toNat);(case atStart=>exact⟨0,AG _,rfl,AD _ _,Aa HR⟩);case round=>clear HR;obtain⟨i,hi,rfl,hg,hR⟩:=hrel;by_cases hlt:i<a.length;{(have cu:decide (i<a.length)=true:=by simpa using hlt);(have hL:=Aa HL;have qo:i<b.length:=by omega);(obtain⟨x,hx⟩:∃x,a[i]?=some x:=⟨a[i],AB hlt⟩);(obtain⟨y,hy⟩:∃y,b[i]?=some y:=⟨b[i],AB qo⟩);(rw[A0 hx,A0 hy,R3]at hR;obtain⟨g,cp,hv,hcs⟩:=((Aa HA).gr hg).cells hx;obtain⟨g2,UR,hv2,dW⟩:=((Aa HB).gr hg).cells hy;simp only[AH,BP]at hv hv2;obtain⟨rfl,rfl⟩:=hv;obtain⟨rfl,rfl⟩:=hv2;have x0:wr.cell? ⟨g,i,none⟩=some (.int .i64 x):=by have:=hcs 0 (by omega);simpa[C8]using this);(have y0:wr.cell? ⟨g2,i,none⟩=some (.int .i64 y):=by have:=dW 0 (by omega);simpa[C8]using this);clear hcs dW hx hy hL;by_cases e8:x=y;{(have ku:(x !=y)=false:=by simpa using e8);(have e2:decide (x=y)=true:=by simpa using e8);rw[e2,FB]at hR;have HR:=Ac hR;clear hR e2 e8;go_wp2;go_quiet (fail);go_wp2;go_roundw;(case rel=>exact⟨i+1,by omega,by go_num,Ab hg (Af _ _ _),Aa HR⟩);case measure=>simp[intOf];omega};{(have ku:(x !=y)=true:=by simpa using e8);(have e2:decide (x=y)=false:=by simpa using e8);rw[e2,DW]at hR;subst hR;clear e2 e8;go_wp2;go_quiet (fail);go_wp2;go_ret;exact⟨rfl,Ab hg (Af _ _ _)⟩}};{(have cu:decide (i<a.length)=false:=by simpa using hlt);(have hL:=Aa HL;rw[BD (by omega),BD (by omega)]at hR;have hR2:true=R:=by simpa using hR);subst hR2;clear hR hL;go_wp2;go_ret;exact⟨rfl,hg⟩}};{(have bg:((a.length:Int) !=(b.length:Int))=true:=by simp;omega);(have e1:decide (a=b)=false:=by simp only[decide_eq_false_iff_not];intro h;exact hl (by rw[h]));rw[e1];clear e1 hl ha hb;go_enter func82,ntmps82;go_wp2;go_ret;exact⟨rfl,AD _ _⟩}
theorem V2{x y:Int×List Int}{a b:List (Int×List Int)}:decide (x::a=y::b)=(decide (x=y)&&decide (a=b)):=by by_cases h1:x=y<;>by_cases h2:a=b<;>simp[h1,h2]
theorem Q6(a b:List VMt)(u v:Value)(w:World)(ha:Q1C 0 u a w)(hb:Q1C 0 v b w):Calls prog 57 #[u,v] w λe w'=>e=.returned (.bool (decide (a.map VMt.of=b.map VMt.of)))/\w.grownBy w' none:=by obtain⟨aa,ac,rfl⟩:=ha.slice;obtain⟨ba,bc,rfl⟩:=hb.slice;have fC:=ha.1.le;unfold maxLen at fC;by_cases hl:a.length=b.length;{(have bg:((a.length:Int) !=(b.length:Int))=false:=by simp;omega);(have HL:=Ac hl;have HA:=Ac ha;have HB:=Ac hb;obtain⟨R,hR⟩:∃R,decide (a.map VMt.of=b.map VMt.of)=R:=⟨_,rfl⟩);rw[hR];have HR:=Ac hR;clear hl ha hb hR;go_enter func57,ntmps57;go_wp2;go_loopw [5] (λx w'=>∃i:Nat,i<=a.length/\x=.int .i64 i/\w.grownBy w' none/\decide ((a.drop i).map VMt.of=(b.drop i).map VMt.of)=R) (λx _=>a.length-(intOf x).toNat);(case atStart=>exact⟨0,AG _,rfl,AD _ _,Aa HR⟩);case round=>clear HR;obtain⟨i,hi,rfl,hg,hR⟩:=hrel;by_cases hlt:i<a.length;{(have cu:decide (i<a.length)=true:=by simpa using hlt);(have hL:=Aa HL;have qo:i<b.length:=by omega);(obtain⟨x,hx⟩:∃x,a[i]?=some x:=⟨a[i],AB hlt⟩);(obtain⟨y,hy⟩:∃y,b[i]?=some y:=⟨b[i],AB qo⟩);rw[A0 hx,A0 hy,DF,DF,V2,Q1i]at hR;obtain⟨g,cp,hv,hcs⟩:=((Aa HA).1.gr hg).cells hx;obtain⟨g2,UR,hv2,dW⟩:=((Aa HB).1.gr hg).cells hy;simp only[AH,BP]at hv hv2;obtain⟨rfl,rfl⟩:=hv;obtain⟨rfl,rfl⟩:=hv2;have x0:wr.cell? ⟨g,i*2,none⟩=some (.int .i64 x.rule):=hcs 0 (by omega);have x1:wr.cell? ⟨g,i*2+1,none⟩=some x.v:=hcs 1 (by omega);have y0:wr.cell? ⟨g2,i*2,none⟩=some (.int .i64 y.rule):=dW 0 (by omega);have y1:wr.cell? ⟨g2,i*2+1,none⟩=some y.v:=dW 1 (by omega);have VY:=(Aa HA).2 x (AW hx);have VX:=(Aa HB).2 y (AW hy);have hS:=λ(W:World) (hW:wr.grownBy W none)=>Q7 x.ids y.ids x.v y.v W (VY.gr (Ab hg hW)) (VX.gr (Ab hg hW));(obtain⟨xa,xc,tK⟩:=VY.slice;obtain⟨ya,yc,VV⟩:=VX.slice;rw[tK]at x1;rw[VV]at y1;rw[tK,VV]at hS;obtain⟨d,hd⟩:∃d,decide (x.ids=y.ids)=d:=⟨_,rfl⟩);rw[hd]at hR hS;have HR:=Ac hR;clear hR hd hcs dW hx hy hL VY VX tK VV;go_wp2_with fail;go_cut [6] (λs wx=>s=.bool d/\wr.grownBy wx none);(case first=>go_region_with (go_at_call 82;refine(hS _ (by repeat (first|exact AD _ _|apply Ah))).mono ?_;rintro e w2⟨rfl,hg2⟩);all_goals go_wp2_with fail;go_meet;exact⟨rfl,Ab (Ah (AD _ _)) hg2⟩);case rest=>obtain⟨rfl,hg2⟩:=hcut;have bQ:=Ab hg hg2;have zu:=hg2.cell x0 (by simp);have y02:=hg2.cell y0 (by simp);clear hS hg2 x0 x1 y0 y1;have fZ:=Aa HR;clear HR;cases d;{rw[KM,DW]at fZ;subst fZ;go_wp2;go_quiet (fail);go_wp2;go_ret;exact⟨rfl,Ab bQ (Af _ _ _)⟩};{rw[KP]at fZ;by_cases e8:x.rule=y.rule;{(have ku:(x.rule !=y.rule)=false:=by simpa using e8);(have e2:decide (x.rule=y.rule)=true:=by simpa using e8);rw[e2,FB]at fZ;have HR:=Ac fZ;clear fZ e2 e8;go_wp2;go_quiet (fail);go_wp2;go_roundw;(case rel=>exact⟨i+1,by omega,by go_num,Ab bQ (Af _ _ _),Aa HR⟩);case measure=>simp[intOf];omega};{(have ku:(x.rule !=y.rule)=true:=by simpa using e8);(have e2:decide (x.rule=y.rule)=false:=by simpa using e8);rw[e2,DW]at fZ;subst fZ;clear e2 e8;go_wp2;go_quiet (fail);go_wp2;go_ret;exact⟨rfl,Ab bQ (Af _ _ _)⟩}}};{(have cu:decide (i<a.length)=false:=by simpa using hlt);(have hL:=Aa HL;rw[BD (by omega),BD (by omega)]at hR;have hR2:true=R:=by simpa using hR);subst hR2;clear hR hL;go_wp2;go_ret;exact⟨rfl,hg⟩}};{(have bg:((a.length:Int) !=(b.length:Int))=true:=by simp;omega);(have e1:decide (a.map VMt.of=b.map VMt.of)=false:=by simp only[decide_eq_false_iff_not];intro h;have:=BJ List.length h;simp only[AY]at this;exact hl this);rw[e1];clear e1 hl ha hb;go_enter func57,ntmps57;go_wp2;go_ret;exact⟨rfl,AD _ _⟩}
theorem J5(n:Nat)(m:Int)(j:Nat):List.replicate n m++List.replicate j m=List.replicate (n+j) m:=by rw[KD]
theorem X0(m:Int)(l:List Int)(i:Nat)(h:i<l.length):(List.replicate i m++l.drop i).set i m=List.replicate (i+1) m++l.drop (i+1):=by have e:l.drop i=l[i]::l.drop (i+1):=CO h;rw[e,IB _ _ (by simp)];simp[List.replicate_succ'];rw[e];rfl
theorem Z6(l:List Int)(i:Nat)(x:Int):(l.set i x).flatMap C8=(l.flatMap C8).set i (.int .i64 x):=by induction l generalizing i with|nil=>simp|cons a l ih=>cases i with|zero=>simp[C8]|succ i=>simp[C8]at ih⊢;exact ih i
theorem Q0L.stored(h:Q0L base (.slice (some ⟨g,0,none⟩) n cap) l w)(i:Nat)(x:Int):Q0L base (.slice (some ⟨g,0,none⟩) n cap) (l.set i x) (w.setCell ⟨g,i,none⟩ (.int .i64 x)):=by have hn:=h.len;subst hn;have h1:=(EC h.2 i (.int .i64 x)).1;refine⟨h.1,?_⟩;rw[EW,Z6];exact h1
def Kin(v v1:Value)(n j:Nat):Prop:=
 (∃g cap,v=.slice (some ⟨g,0,none⟩) n cap/\v1=.slice (some ⟨g,0,none⟩) (n+j) cap)\/(∀g,v1.ownBlock=some g->v.ownBlock≠some g)
theorem Q0O.kin(h:Q0O v v1 n j w w')(hv:∀g,v.ownBlock=some g->g<w.heap.size):Kin v v1 n j:=by rcases h with ⟨g,cap,h1,h2,_⟩|⟨_,g,cap,h1,h2⟩;{exact .inl ⟨g,cap,h1,h2⟩};{refine .inr (λg' aw e=>?_);rw[h1]at aw;simp only[Value.ownBlock,AE]at aw;have:=hv g' e;omega}
theorem Kin.keep(hk:Kin v v1 n j)(h1:Q0L 0 v1 (List.replicate (n+j) m) w)(h2:Q0L 0 v2 (List.replicate (n+j2) m) w')(hl:Q0O v v2 n j2 w w')(hj:j<=j2):Q0L 0 v1 (List.replicate (n+j) m) w':=by rcases hl with ⟨g,cap,e1,e2,hg⟩|⟨hg,_⟩;{rcases hk with ⟨g',cap',e3,e4⟩|hne;{rw[e1]at e3;(simp only[AH,AE,BL,CA,BP]at e3;obtain⟨rfl,rfl⟩:=e3;rw[e2]at h2;have e5:List.replicate (n+j2) m=List.replicate (n+j) m++List.replicate (j2-j) m:=by rw[J5];congr 1;omega);rw[e5]at h2;have h3:=h2.prefix;rw[BN]at h3;rw[e4];exact h3};{refine h1.other hg (λg' aw e=>?_);have:=hne g' aw;rw[e1]at this;exact this (by rw[<-e];rfl)}};{exact h1.gr hg}
theorem N0(v:Value)(n:Nat)(h:Q0L 0 v (List.replicate n m) w):Kin v v n 0:=by rcases h.2.2 with ⟨h1,_⟩|⟨g,cap,cur,h1,_⟩;{right;intro g hg;rw[h1]at hg;simp[Value.ownBlock]at hg};{left;rw[BN]at h1;exact⟨g,cap,h1,h1⟩}
theorem Q0O.keepRow{enc:α->List Value}{x:Value}{l:List α}{v':Value}(hl:Q0O v v' n j w w')(h:Q0B e size enc base x l w)(hne:∀g,x.ownBlock=some g->v.ownBlock≠some g):Q0B e size enc base x l w':=by rcases hl with ⟨g,cap,e1,_,hg⟩|⟨hg,_⟩;{exact h.other hg (λg' aw e=>hne g' aw (by rw[e1];exact e))};{exact h.gr hg}
def Q1N(W:Nat)(c:Array Value)(w:World):Prop:=w.heap[W]?=some (.cells c 73 (0,0))
def Q1P(T:Nat->Nat)(uv k0:Value)(us:List (Value×Int))(w:World):Prop:=
 Q0Q T 3 35 1 (λp:Value×Int=>[p.1]) uv us w/\Q0Q T 6 3 1 C8 k0 (us.map Prod.snd) w/\∀p∈us,∃n,Q0Q T 10 3 1 C8 p.1 (List.replicate n p.2) w
theorem Q1N.cell{W:Nat}{c:Array Value}{w:World}(h:Q1N W c w)(k:Nat):w.cell? ⟨W,k,none⟩=c[k]?:=by unfold Q1N at h;simp[World.cell?,h]
theorem Q1N.fz(h:Q1N W c w)(k:Nat):w.frozen? ⟨W,k,none⟩=false:=by unfold Q1N at h;simp[World.frozen?,h]
theorem Q1N.set(h:Q1N W c w)(k:Nat)(v:Value):Q1N W (c.setIfInBounds k v) (w.setCell ⟨W,k,none⟩ v):=by unfold Q1N at h⊢;exact BB w W k _ _ _ h
theorem Q1N.gr(h:Q1N W c w)(hg:w.grownBy w' row)(hr:row≠some W):Q1N W c w':=by unfold Q1N at h⊢;rw[hg.block W (Ad h) (λe=>hr e.symm)];exact h
theorem Q1N.grs(h:Q1N W c w)(hg:GrS S w w')(hr:¬ S W):Q1N W c w':=hg.blk h hr
theorem Q5C:(prog.info? 35).map (λi=>(i.zero,i.size,i.bytes))=some (some (.slice none 0 0),1,24):=by kernel_rfl
theorem Q0B.litn{enc:α->List Value}(hsz:∀a,(enc a).length=size)(w:World)(l:List α)(cs:Array Value)(hc:cs.toList=l.flatMap enc)(hl:l.length<=maxLen):Q0B e size enc w.heap.size (.slice (some ⟨w.heap.size,0,none⟩) l.length l.length) l (w.alloc (.cells cs e)):=by
 have hlen:∀(k:List α),(k.flatMap enc).length=k.length*size:=by intro k;induction k with|nil=>simp|cons a k ih=>rw[BG,AL,hsz,ih,AP,GZ];omega
 refine⟨hsz,?_⟩;have h:=IV (base:=w.heap.size) (e:=e) (size:=size) w cs l.length (AX _) hl (by rw[<-Array.length_toList,hc,hlen]);rw[hc]at h;exact h
def Jq(T:Nat->Nat)(t0 W:Nat)(nv fv mv k1 k2 lv:Value)(us:List (Value×Int))(w:World)(e:Ending)(w':World):Prop:=
 e=.returned (.tuple #[])/\∃T' ik il gW,Q1N W #[nv,ik,fv,mv,il,k1,k2,lv] w'/\Q1P T' ik il gW w'/\gW.length=us.length+4/\
  GrS (λk=>T k=1\/T k=3\/T k=6\/T k=t0) w w'/\∀k,k<w.heap.size->T k≠t0->T' k=T k
theorem Sy(T:Nat->Nat)(t0 W:Nat)(nv uv fv mv k0 k1 k2 lv:Value)(us:List (Value×Int))(v:Value)(l:List Int)(w:World) (hW:Q1N W #[nv,uv,fv,mv,k0,k1,k2,lv] w)(si:T W=1)(hN:Q1P T uv k0 us w)(hv:Q0Q T t0 3 1 C8 v l w)(oA:11<=t0)(gO:us.length<=4398046511104)(kh:l.length<=1000000):Calls prog 61 #[.pointer (some ⟨W,0,none⟩),v] w λe w'=>Jq T t0 W nv fv mv k1 k2 lv us w e w':=by
 obtain⟨bA,aN,rfl⟩:=hv.1.slice;obtain⟨b7,bJ,ej⟩:=hN;obtain⟨iP,cJ,hk0⟩:=bJ.1.slice;rw[AY]at hk0;have c4:w.cell? ⟨W,4,none⟩=some (.slice iP us.length cJ):=by rw[hW.cell 4,hk0];rfl
 obtain⟨m,hm⟩:∃m:Int,m=-1-(us.length:Int):=⟨_,rfl⟩
 have hm1:-4398046511106<=m:=by omega
 have ND:m<=-1:=by omega
 have kg:=hv.1.own;have HV:=Ac hv;have et:=Ac b7;have er:=Ac bJ;have HN3:=Ac ej;have HW:=Ac hW;have SB:=Ac hk0;have HM:=Ac hm;have lY:=Ac kg;clear kg hv b7 bJ ej hW hk0 hm;go_enter func61,ntmps61;go_wp2;rw[<-Aa HM];have zj:=Ac gO;have HM1:=Ac hm1;have HM2:=Ac ND;clear gO hm1 ND c4;go_loopw [5] (λx w'=>∃i:Nat,i<=l.length/\x=.int .i64 i/\GrS (λk=>T k=t0) w w'/\Q0L 0 (.slice bA l.length aN) (List.replicate i m++l.drop i) w') (λx _=>l.length-(intOf x).toNat);case atStart=>exact⟨0,AG _,rfl,GrS.refl _ _,by simpa using(Aa HV).1⟩
 case round=>
  obtain⟨i,hi,rfl,hG,hR⟩:=hrel;by_cases hlt:i<l.length;{(have cu:decide (i<l.length)=true:=by simpa using hlt);(obtain⟨x,hx⟩:∃x,(List.replicate i m++l.drop i)[i]?=some x:=⟨_,AB (by simp;omega)⟩);(obtain⟨g,cp,eZ,hcs⟩:=hR.cells hx;simp only[AH]at eZ;obtain⟨rfl,hzz,rfl⟩:=eZ;clear hzz;have x0:wr.cell? ⟨g,i,none⟩=some (.int .i64 x):=by have:=hcs 0 (by omega);simpa[C8]using this);have z0:=hR.fz i;have vq:T g=t0:=(Aa HV).2 g rfl;have hR2:=hR.stored i m;rw[X0 m l i hlt]at hR2;have bI:=hG.then (Aj wr g i (.int .i64 m)) (λk hk=>by simp at hk;subst hk;exact .inr vq);clear hcs hx hR hG vq;have cO:=Ac hR2;have ui:=Ac bI;clear hR2 bI;go_wp2;go_roundw;(case rel=>exact⟨i+1,by omega,by go_num,Aa ui,Aa cO⟩);case measure=>simp[intOf];omega}
  ·have cu:decide (i<l.length)=false:=by simpa using hlt
   have e1:List.replicate i m++l.drop i=List.replicate l.length m:=by rw[BD (by omega),BM];congr 1;omega
   rw[e1]at hR;clear e1 hlt hi;generalize kX:l.length=n at *;have a7:=AA wr (.cells #[.int .i64 m] 3) none;have hs1:Q0L 0 (.slice (some ⟨wr.heap.size,0,none⟩) 1 1) (List.replicate 1 m) (wr.alloc (.cells #[.int .i64 m] 3)):=(Q0B.litn Av wr (List.replicate 1 m) #[.int .i64 m] rfl (by simp[maxLen])).weak (AG _);have lB:=hR.gr a7;go_wp2_with (at_builtin;refine Cg rfl _ _ 35 rfl underlying35 Q0I rfl (by decide) rfl lB rfl hs1 (by simp) (λy _=>Cb y) (by unfold maxLen;simp;omega) (by simp;omega) ?_);intro v1 w1 aP eM;obtain⟨g1,aS,rfl⟩:=eM.form;have eb:Q0L 0 (.slice (some ⟨g1,0,none⟩) (n+1) aS) (List.replicate (n+1) m) w1:=by have:=aP;rw[<-J5 n m 1];exact this
   have eE:∀g,(Value.slice bA n aN).ownBlock=some g->g<(wr.alloc (.cells #[.int .i64 m] 3)).heap.size:=λg hg=>AV (Aa lY g hg).2 (AU hG.size a7.size);have gB:=eM.kin eE;have hR1:Q0L 0 (.slice bA n aN) (List.replicate (n+0) m) w1:=Kin.keep (v:=.slice bA n aN) (v1:=.slice bA n aN) (j:=0) (N0 _ _ hR) lB eb eM (AG _);have oW:=(hG.then a7 (by simp)).trans (eM.gr (λg hg=>(Aa HV).2 g hg));have hown1:=eM.own;have sB:w.heap.size<=(wr.alloc (.cells #[.int .i64 m] 3)).heap.size:=AU hG.size a7.size;have aO:=AA w1 (.cells #[.int .i64 m,.int .i64 m] 3) none;have hs2:Q0L 0 (.slice (some ⟨w1.heap.size,0,none⟩) 2 2) (List.replicate 2 m) (w1.alloc (.cells #[.int .i64 m,.int .i64 m] 3)):=(Q0B.litn Av w1 (List.replicate 2 m) #[.int .i64 m,.int .i64 m] rfl (by simp[maxLen])).weak (AG _);have jL:=hR1.gr aO;have lj:=eb.gr aO;have sJ:=Ac gB;have lW:=Ac hown1;clear a7 hs1 lB aP eM hR1 hR hG eE gB hown1 eb;go_wp2_with (at_builtin;refine Cg rfl _ _ 35 rfl underlying35 Q0I rfl (by decide) rfl jL rfl hs2 (by simp) (λy _=>Cb y) (by unfold maxLen;simp;omega) (by simp;omega) ?_);intro v2 w2 hv2 hl2;obtain⟨g2,cap2,rfl⟩:=hl2.form;have fG:Q0L 0 (.slice (some ⟨g2,0,none⟩) (n+2) cap2) (List.replicate (n+2) m) w2:=by have:=hv2;rw[<-J5 n m 2];exact this
   have eE:∀g,(Value.slice bA n aN).ownBlock=some g->g<(w1.alloc (.cells #[.int .i64 m,.int .i64 m] 3)).heap.size:=λg hg=>AV (Aa lY g hg).2 (AU oW.size aO.size);have gA:=hl2.kin eE;have hR2:Q0L 0 (.slice bA n aN) (List.replicate (n+0) m) w2:=Kin.keep (v:=.slice bA n aN) (v1:=.slice bA n aN) (j:=0) (N0 _ _ jL) jL fG hl2 (AG _);have kN:=Kin.keep (Aa sJ) lj fG hl2 (by omega);have rh:=(oW.then aO (by simp)).trans (hl2.gr (λg hg=>(Aa HV).2 g hg));have hown2:=hl2.own;have sA:w.heap.size<=(w1.alloc (.cells #[.int .i64 m,.int .i64 m] 3)).heap.size:=AU oW.size aO.size;have bX:=AA w2 (.cells #[.int .i64 m,.int .i64 m,.int .i64 m] 3) none;have hs3:Q0L 0 (.slice (some ⟨w2.heap.size,0,none⟩) 3 3) (List.replicate 3 m) (w2.alloc (.cells #[.int .i64 m,.int .i64 m,.int .i64 m] 3)):=(Q0B.litn Av w2 (List.replicate 3 m) #[.int .i64 m,.int .i64 m,.int .i64 m] rfl (by simp[maxLen])).weak (AG _);have jm:=hR2.gr bX;have kM:=kN.gr bX;have kL:=fG.gr bX;have kI:=Ac gA;have lV:=Ac hown2;clear aO hs2 jL lj hv2 hl2 hR2 kN oW eE gA hown2 fG;go_wp2_with (at_builtin;refine Cg rfl _ _ 35 rfl underlying35 Q0I rfl (by decide) rfl jm rfl hs3 (by simp) (λy _=>Cb y) (by unfold maxLen;simp;omega) (by simp;omega) ?_);intro v3 w3 hv3 hl3;obtain⟨g3,b8,rfl⟩:=hl3.form;have bV:Q0L 0 (.slice (some ⟨g3,0,none⟩) (n+3) b8) (List.replicate (n+3) m) w3:=by have:=hv3;rw[<-J5 n m 3];exact this
   have dm:Q0L 0 (.slice bA n aN) (List.replicate (n+0) m) w3:=Kin.keep (v:=.slice bA n aN) (v1:=.slice bA n aN) (j:=0) (N0 _ _ jm) jm bV hl3 (AG _);have gu:=Kin.keep (Aa sJ) kM bV hl3 (by omega);have gq:=Kin.keep (Aa kI) kL bV hl3 (by omega);have jM:=(rh.then bX (by simp)).trans (hl3.gr (λg hg=>(Aa HV).2 g hg));have fu:=hl3.own;have jo:=jM.size;have gI:=rh.size;have ho:∀v':Value,(v'=.slice bA n aN\/v'=.slice (some ⟨g1,0,none⟩) (n+1) aS\/v'=.slice (some ⟨g2,0,none⟩) (n+2) cap2\/v'=.slice (some ⟨g3,0,none⟩) (n+3) b8)->∀g,v'.ownBlock=some g->(g<w.heap.size/\T g=t0)\/w.heap.size<=g:=by have hV:∀g,(Value.slice bA n aN).ownBlock=some g->(g<w.heap.size/\T g=t0)\/w.heap.size<=g:=λg hg=>.inl ⟨(Aa lY g hg).2,(Aa HV).2 g hg⟩;rintro v' (rfl|rfl|rfl|rfl) g hg;{exact hV g hg};{rcases Aa lW g hg with h|h;{exact hV g h};{exact .inr (AU sB h)}};{rcases Aa lV g hg with h|h;{exact hV g h};{exact .inr (AU sA h)}};{rcases fu g hg with h|h;{exact hV g h};{exact .inr (AU (AU gI bX.size) h)}}
   have HO:=Ac ho;have gy:=jM.row (Aa et).1 (λg hg=>by have:=(Aa et).2 g hg;omega);have kj:=jM.row (Aa er).1 (λg hg=>by have:=(Aa er).2 g hg;omega);have hW3:=(Aa HW).grs jM (by omega);clear bX hs3 jm kM kL hv3 hl3 fu ho rh gI lW lV sJ kI kX;obtain⟨jQ,dJ,rfl⟩:=gy.slice;obtain⟨L4,hL4⟩:∃L4:List (Value×Int),L4=[(.slice bA n aN,m),(.slice (some ⟨g1,0,none⟩) (n+1) aS,m),(.slice (some ⟨g2,0,none⟩) (n+2) cap2,m),(.slice (some ⟨g3,0,none⟩) (n+3) b8,m)]:=⟨_,rfl⟩
   have cG:L4.length=4:=by rw[hL4];rfl
   have dO:=AA w3 (.cells #[.slice bA n aN,.slice (some ⟨g1,0,none⟩) (n+1) aS,.slice (some ⟨g2,0,none⟩) (n+2) cap2,.slice (some ⟨g3,0,none⟩) (n+3) b8] 35) none;have jV:Q0B 35 1 (λp:Value×Int=>[p.1]) 0 (.slice (some ⟨w3.heap.size,0,none⟩) 4 4) L4 (w3.alloc (.cells #[.slice bA n aN,.slice (some ⟨g1,0,none⟩) (n+1) aS,.slice (some ⟨g2,0,none⟩) (n+2) cap2,.slice (some ⟨g3,0,none⟩) (n+3) b8] 35)):=by have:=(Q0B.litn (e:=35) (size:=1) (enc:=λp:Value×Int=>[p.1]) (λ_=>rfl) w3 L4 #[.slice bA n aN,.slice (some ⟨g1,0,none⟩) (n+1) aS,.slice (some ⟨g2,0,none⟩) (n+2) cap2,.slice (some ⟨g3,0,none⟩) (n+3) b8] (by rw[hL4];rfl) (by rw[cG];decide)).weak (AG _);rw[cG]at this;exact this
   have fw:∀y∈L4,∀c∈[y.1],c.oneCell'=true:=by intro y hy c hc;rw[hL4]at hy;simp only[AZ]at hc;subst hc;simp only[CQ,GG,KC]at hy;rcases hy with rfl|rfl|rfl|rfl<;>rfl
   have rU:=Aa zj;have hb1:us.length+L4.length<=maxLen:=by rw[cG];unfold maxLen;omega
   have hb2:(us.length+L4.length)*24<=140737488355328:=by rw[cG];omega
   have hb3:0<L4.length:=by rw[cG];decide
   have fP:=Ac hb1;have fq:=Ac hb2;have lh:=Ac hb3;have eX:=Ac fw;have RQ:=Ac jV;have kO:=gy.gr dO;have rR:=hW3.gr dO (by simp);have rH:(w3.alloc (.cells #[.slice bA n aN,.slice (some ⟨g1,0,none⟩) (n+1) aS,.slice (some ⟨g2,0,none⟩) (n+2) cap2,.slice (some ⟨g3,0,none⟩) (n+3) b8] 35)).cell? ⟨W,1,none⟩=some (.slice jQ us.length dJ):=rR.cell 1;have rI:w3.cell? ⟨W,1,none⟩=some (.slice jQ us.length dJ):=hW3.cell 1;have sr:=Ac hL4;have iR:=Ac cG;clear hb1 hb2 hb3 fw jV hL4 cG rU;have uw:(Value.slice jQ us.length dJ).ownBlock≠some W:=λe=>by have:=(Aa et).2 W e;omega
   have wN:=Ac uw;clear uw;go_wp2_with (at_builtin;refine Cg rfl _ _ 68 rfl underlying68 Q5C rfl (by decide) rfl kO rfl (Aa RQ) (Aa lh) (Aa eX) (Aa fP) (Aa fq) ?_);intro u5 w5 o9 aK;obtain⟨g5,aG,rfl⟩:=aK.form;rw[Aa iR]at o9 aK;have gC:Q1N W #[nv,.slice jQ us.length dJ,fv,mv,k0,k1,k2,lv] w5:=aK.block rR (Aa wN);have yT:w5.cell? ⟨W,1,none⟩=some (.slice jQ us.length dJ):=gC.cell 1;have z51:=gC.fz 1;have iL:∀g,(Value.slice jQ us.length dJ).ownBlock=some g->g<w.heap.size/\T g=3:=λg hg=>⟨((Aa et).1.own g hg).2,(Aa et).2 g hg⟩
   have eR:∀g,k0.ownBlock=some g->g<w.heap.size/\T g=6:=λg hg=>⟨((Aa er).1.own g hg).2,(Aa er).2 g hg⟩
   have aX:=Aj w5 W 1 (.slice (some ⟨g5,0,none⟩) (us.length+4) aG);have j0:W<w.heap.size:=Ad (Aa HW);have b9:∀(v':Value) (k:Nat),(v'=.slice bA n aN\/v'=.slice (some ⟨g1,0,none⟩) (n+1) aS\/v'=.slice (some ⟨g2,0,none⟩) (n+2) cap2\/v'=.slice (some ⟨g3,0,none⟩) (n+3) b8)->Q0L 0 v' (List.replicate k m) w3->Q0L 0 v' (List.replicate k m) (w5.setCell ⟨W,1,none⟩ (.slice (some ⟨g5,0,none⟩) (us.length+4) aG)):=by intro v' k hv' h;have h1:=aK.keepRow (h.gr dO) (λg hg e=>by have h2:=iL g e;rcases Aa HO v' hv' g hg with h3|h3<;>omega);refine h1.other aX (λg hg e=>?_);simp only[AE]at e;subst e;rcases Aa HO v' hv' W hg with h3|h3<;>omega
   have hw0:=b9 _ _ (.inl rfl) dm;have hw1:=b9 _ _ (.inr (.inl rfl)) gu;have hw2:=b9 _ _ (.inr (.inr (.inl rfl))) gq;have hw3:=b9 _ _ (.inr (.inr (.inr rfl))) bV;have qw:Q0B 3 1 C8 0 k0 (us.map Prod.snd) (w5.setCell ⟨W,1,none⟩ (.slice (some ⟨g5,0,none⟩) (us.length+4) aG)):=by have h1:=aK.keepRow (kj.gr dO) (λg hg e=>by have h2:=iL g e;have h3:=eR g hg;omega);refine h1.other aX (λg hg e=>?_);simp only[AE]at e;subst e;have h3:=eR W hg;omega
   have qN:Q0B 35 1 (λp:Value×Int=>[p.1]) 0 (.slice (some ⟨g5,0,none⟩) (us.length+4) aG) (us++L4) (w5.setCell ⟨W,1,none⟩ (.slice (some ⟨g5,0,none⟩) (us.length+4) aG)):=by refine o9.other aX (λg hg e=>?_);simp only[AE]at e;subst e;rcases aK.own W hg with h2|h2;{exact Aa wN h2};{have h4:=dO.size;omega}
   have oP:Q1N W #[nv,.slice (some ⟨g5,0,none⟩) (us.length+4) aG,fv,mv,k0,k1,k2,lv] (w5.setCell ⟨W,1,none⟩ (.slice (some ⟨g5,0,none⟩) (us.length+4) aG)):=gC.set 1 _;have bM:g5<w3.heap.size+1->T g5=3/\g5<w.heap.size:=by intro hlt;rcases aK.own g5 rfl with h2|h2;{exact⟨(iL g5 h2).2,(iL g5 h2).1⟩};{simp at h2;omega}
   have dX:GrS (λk=>T k=1\/T k=3\/T k=6\/T k=t0) w (w5.setCell ⟨W,1,none⟩ (.slice (some ⟨g5,0,none⟩) (us.length+4) aG)):=by have h1:GrS (λk=>T k=1\/T k=3\/T k=6\/T k=t0) w w3:=jM.mono (λk hk=>.inr (.inr (.inr hk)));have h2:=(h1.then dO (by simp)).trans (aK.gr (λg hg=>.inr (.inl (iL g hg).2)));exact h2.then aX (λg hg=>by simp only[AE]at hg;subst hg;exact .inr (.inl si))
   obtain⟨w6,iX⟩:∃w6,w5.setCell ⟨W,1,none⟩ (.slice (some ⟨g5,0,none⟩) (us.length+4) aG)=w6:=⟨_,rfl⟩
   have MG:w5.heap.size=w6.heap.size:=by rw[<-iX];simp[World.setCell]
   have MH:w3.heap.size+1<=w5.heap.size:=by have h1:GrS (λk=>T k=3) (w3.alloc (.cells #[.slice bA n aN,.slice (some ⟨g1,0,none⟩) (n+1) aS,.slice (some ⟨g2,0,none⟩) (n+2) cap2,.slice (some ⟨g3,0,none⟩) (n+3) b8] 35)) w5:=aK.gr (λg hg=>(iL g hg).2);have h2:=h1.size;simp at h2;omega
   have NG:g5<w5.heap.size:=(o9.own g5 rfl).2;have hlt3:∀(v':Value) (k:Nat),Q0L 0 v' (List.replicate k m) w3->∀g,v'.ownBlock=some g->g<w3.heap.size:=λv' k h g hg=>(h.own g hg).2;have q0:=hlt3 _ _ dm;have q1:=hlt3 _ _ gu;have q2:=hlt3 _ _ gq;have q3:=hlt3 _ _ bV;rw[iX]at hw0 hw1 hw2 hw3 qw qN oP dX;have hk0:=Aa SB;subst hk0;have jJ:=Ah (AA w6 (.cells #[.int .i64 m,.int .i64 m,.int .i64 m,.int .i64 m] 3) none);have qb:Q0L 0 (.slice (some ⟨w6.heap.size,0,none⟩) 4 4) (List.replicate 4 m) (w6.alloc (.cells #[.int .i64 m,.int .i64 m,.int .i64 m,.int .i64 m] 3)).drew:=((Q0B.litn Av w6 (List.replicate 4 m) #[.int .i64 m,.int .i64 m,.int .i64 m,.int .i64 m] rfl (by simp[maxLen])).weak (AG _)).heap rfl;have RA:w6.cell? ⟨W,4,none⟩=some (.slice iP us.length cJ):=oP.cell 4;have QZ:(w6.alloc (.cells #[.int .i64 m,.int .i64 m,.int .i64 m,.int .i64 m] 3)).cell? ⟨W,4,none⟩=some (.slice iP us.length cJ):=(AA w6 _ none).cell RA (by simp);obtain⟨WX,oO⟩:∃WX,(w6.alloc (.cells #[.int .i64 m,.int .i64 m,.int .i64 m,.int .i64 m] 3)).drew=WX:=⟨_,rfl⟩
   have MF:WX.heap.size=w6.heap.size+1:=by rw[<-oO];simp[World.drew]
   rw[oO]at jJ qb;have vS:=qw.gr jJ;have wD:(Value.slice iP us.length cJ).ownBlock≠some W:=λe=>by have:=eR W e;omega
   have iM:∀g7 au w7,Q0B 3 1 C8 0 (.slice (some ⟨g7,0,none⟩) (us.length+4) au) (us.map Prod.snd++List.replicate 4 m) w7->Q0O (.slice iP us.length cJ) (.slice (some ⟨g7,0,none⟩) (us.length+4) au) us.length 4 WX w7->w7.cell? ⟨W,4,none⟩=some (.slice iP us.length cJ)/\w7.frozen? ⟨W,4,none⟩=false/\Jq T t0 W nv fv mv k1 k2 lv us w (.returned (.tuple #[])) (w7.setCell ⟨W,4,none⟩ (.slice (some ⟨g7,0,none⟩) (us.length+4) au)):=by intro g7 au w7 iY bP;have rS:Q1N W #[nv,.slice (some ⟨g5,0,none⟩) (us.length+4) aG,fv,mv,.slice iP us.length cJ,k1,k2,lv] w7:=bP.block (oP.gr jJ (by simp)) wD;have iE:=Aj w7 W 4 (.slice (some ⟨g7,0,none⟩) (us.length+4) au);have jN:=((dX.then jJ (by simp)).trans (bP.gr (λg hg=>.inr (.inr (.inl (eR g hg).2))))).then iE (λg hg=>by simp only[AE]at hg;subst hg;exact .inr (.inl si));(have cq:g7<w6.heap.size+1->T g7=6/\g7<w.heap.size:=by intro hlt;rcases bP.own g7 rfl with h2|h2;{exact⟨(eR g7 h2).2,(eR g7 h2).1⟩};{omega});(have bz:∀ {α:Type} {e:TypeId} {size:Nat} {enc:α->List Value} (x:Value) (y:List α),Q0B e size enc 0 x y w6->(∀g,x.ownBlock=some g->(g<w.heap.size/\T g≠6/\T g≠1)\/w.heap.size<=g)->Q0B e size enc 0 x y (w7.setCell ⟨W,4,none⟩ (.slice (some ⟨g7,0,none⟩) (us.length+4) au)):=by intro α e size enc x y h hx;have h1:=bP.keepRow (h.gr jJ) (λg hg e=>by have h2:=eR g e;rcases hx g hg with h3|h3<;>omega);refine h1.other iE (λg hg e=>?_);simp only[AE]at e;subst e;rcases hx W hg with h3|h3<;>omega);(have pL:L4.map Prod.snd=List.replicate 4 m:=by rw[Aa sr];rfl);(obtain⟨T',bH⟩:∃T':Nat->Nat,∀k,T' k=if k<w.heap.size then (if T k=t0 then 10 else T k)else if k=g5 then 3 else if k=g7 then 6 else 10:=⟨_,λ_=>rfl⟩);(have dG:∀k,k<w.heap.size->T k≠t0->T' k=T k:=λk h1 h2=>by rw[bH,AQ h1,AO h2]);refine⟨rS.cell 4,rS.fz 4,rfl,T',.slice (some ⟨g5,0,none⟩) (us.length+4) aG,.slice (some ⟨g7,0,none⟩) (us.length+4) au,us++L4,rS.set 4 _,⟨⟨?_,?_⟩,⟨?_,?_⟩,?_⟩,by rw[AL,Aa iR],jN,dG⟩;{refine bz _ _ qN (λg hg=>?_);simp only[Value.ownBlock,AE]at hg;subst hg;by_cases hlt:g5<w.heap.size;{have:=bM (by omega);exact .inl ⟨hlt,by omega,by omega⟩};{exact .inr (by omega)}};{intro g hg;simp only[Value.ownBlock,AE]at hg;subst hg;by_cases hlt:g5<w.heap.size;{have:=bM (by omega);rw[dG g5 hlt (by omega)];exact this.1};{rw[bH,AO hlt,AQ rfl]}};{rw[BZ,pL];refine iY.other iE (λg hg e=>?_);simp only[Value.ownBlock,AE]at hg e;subst hg;subst e;have:=cq (by omega);omega};{intro g hg;simp only[Value.ownBlock,AE]at hg;subst hg;by_cases hlt:g7<w.heap.size;{have:=cq (by omega);rw[dG g7 hlt (by omega)];exact this.1};{(have hne:g7≠g5:=by intro e;have:=cq (by omega);omega);rw[bH,AO hlt,AO hne,AQ rfl]}};{(have hnew:∀(v':Value) (k:Nat),(v'=.slice bA n aN\/v'=.slice (some ⟨g1,0,none⟩) (n+1) aS\/v'=.slice (some ⟨g2,0,none⟩) (n+2) cap2\/v'=.slice (some ⟨g3,0,none⟩) (n+3) b8)->Q0L 0 v' (List.replicate k m) w6->(∀g,v'.ownBlock=some g->g<w3.heap.size)->∃j,Q0Q T' 10 3 1 C8 v' (List.replicate j m) (w7.setCell ⟨W,4,none⟩ (.slice (some ⟨g7,0,none⟩) (us.length+4) au)):=by intro v' k hv' h hlt;refine⟨k,bz v' _ h (λg hg=>?_),λg hg=>?_⟩;{rcases Aa HO v' hv' g hg with h3|h3;{exact .inl ⟨h3.1,by omega,by omega⟩};{exact .inr h3}};{rcases Aa HO v' hv' g hg with h3|h3;{rw[bH,AQ h3.1,AQ h3.2]};{have hl:=hlt g hg;(have MW:g≠g5:=by intro e;have:=bM (by omega);omega);(have kY:g≠g7:=by intro e;have:=cq (by omega);omega);rw[bH,AO (by omega),AO MW,AO kY]}});intro p hp;rcases BA.1 hp with hp|hp;{obtain⟨j,hj⟩:=Aa HN3 p hp;exact⟨j,hj.keep2 jN (λk hk=>by omega) (λk hk hk2=>by rw[dG k hk (by omega)];exact hk2)⟩};{rw[Aa sr]at hp;simp only[CQ,GG,KC]at hp;rcases hp with rfl|rfl|rfl|rfl;{exact hnew _ _ (.inl rfl) hw0 q0};{exact hnew _ _ (.inr (.inl rfl)) hw1 q1};{exact hnew _ _ (.inr (.inr (.inl rfl))) hw2 q2};{exact hnew _ _ (.inr (.inr (.inr rfl))) hw3 q3}}}
   have js:=Ac iM;have SA:=Ac vS;have RO:=Ac qb;have RF:=Ac oO;have RG:=Ac iX;have rU:=Aa zj;have hb1:(us.map Prod.snd).length+(List.replicate 4 m).length<=maxLen:=by rw[AY,BN];unfold maxLen;omega
   have hb2:((us.map Prod.snd).length+(List.replicate 4 m).length)*8<=140737488355328:=by rw[AY,BN];omega
   have sO:=Ac hb1;have sN:=Ac hb2;clear iM vS qb oO hb1 hb2 rU qw qN oP dX hw0 hw1 hw2 hw3 b9 hlt3 q0 q1 q2 q3 dm gu gq bV bM iL eR o9 aK gy kO kj dO hW3 rR gC rH rI jM aX jJ wD iX;go_wp2_with fail;rw[Aa iR,Aa RG];go_region_law (rw[Aa RF];refine E4 rfl _ _ 35 rfl underlying35 Q0I rfl (by decide) (by simp[Act.eval]) (Aa SA) (by simp[Act.eval]) (Aa RO) (by simp) (λy _=>Cb y) (Aa sO) (Aa sN) ?_;intro kv w7 iY bP;rw[AY,BN]at bP;obtain⟨g7,au,rfl⟩:=bP.form;obtain⟨f1,f2,f3⟩:=Aa js g7 au w7 iY bP;have F3:=Ac f3;clear f3 iY bP);all_goals go_wp2_with fail;go_end0;exact Aa F3
theorem Ez(n:Nat)(a:α)(j:Nat):List.replicate n a++List.replicate j a=List.replicate (n+j) a:=by rw[KD]
theorem S1(m:α)(l:List α)(i:Nat)(h:i<l.length):(List.replicate i m++l.drop i).set i m=List.replicate (i+1) m++l.drop (i+1):=by have e:l.drop i=l[i]::l.drop (i+1):=CO h;rw[e,IB _ _ (by simp)];simp[List.replicate_succ'];rw[e];rfl
theorem Kin.keepG{enc:α->List Value}{m:α}(hk:Kin v v1 n j)(h1:Q0B e size enc 0 v1 (List.replicate (n+j) m) w)(h2:Q0B e size enc 0 v2 (List.replicate (n+j2) m) w')(hl:Q0O v v2 n j2 w w')(hj:j<=j2):Q0B e size enc 0 v1 (List.replicate (n+j) m) w':=by rcases hl with ⟨g,cap,e1,e2,hg⟩|⟨hg,_⟩;{rcases hk with ⟨g',cap',e3,e4⟩|hne;{rw[e1]at e3;(simp only[AH,AE,BL,CA,BP]at e3;obtain⟨rfl,rfl⟩:=e3;rw[e2]at h2;have e5:List.replicate (n+j2) m=List.replicate (n+j) m++List.replicate (j2-j) m:=by rw[Ez];congr 1;omega);rw[e5]at h2;have h3:=h2.prefix;rw[BN]at h3;rw[e4];exact h3};{refine h1.other hg (λg' aw e=>?_);have:=hne g' aw;rw[e1]at this;exact this (by rw[<-e];rfl)}};{exact h1.gr hg}
theorem Fe{enc:α->List Value}(v:Value)(n:Nat){m:α}(h:Q0B e size enc 0 v (List.replicate n m) w):Kin v v n 0:=by rcases h.2.2 with ⟨h1,_⟩|⟨g,cap,cur,h1,_⟩;{right;intro g hg;rw[h1]at hg;simp[Value.ownBlock]at hg};{left;rw[BN]at h1;exact⟨g,cap,h1,h1⟩}
theorem Fc(x:VFt)(h:x.v.oneCell'=true):∀c∈ftenc x,c.oneCell'=true:=by intro c hc;simp[ftenc]at hc;rcases hc with rfl|rfl;{rfl};{exact h}
theorem Wk(l:List VFt)(i:Nat)(x:VFt)(h:i<l.length):(l.set i x).flatMap ftenc=((l.flatMap ftenc).set (i*2) (.int .i64 x.kind)).set (i*2+1) x.v:=by induction l generalizing i with|nil=>simp at h|cons a l ih=>cases i with|zero=>simp[ftenc]|succ i=>(have e1:(i+1)*2=i*2+1+1:=by omega);have e2:=ih i (by simpa using h);rw[FW,BG,BG,e2,e1];rfl
theorem FtsAt.stored{l:List VFt}(h:Q0B e 2 ftenc base (.slice (some ⟨g,0,none⟩) n cap) l w)(i:Nat)(x:VFt)(hi:i<l.length):Q0B e 2 ftenc base (.slice (some ⟨g,0,none⟩) n cap) (l.set i x) ((w.setCell ⟨g,i*2,none⟩ (.int .i64 x.kind)).setCell ⟨g,i*2+1,none⟩ x.v):=by have hn:=h.len;subst hn;have h1:=(EC h.2 (i*2) (.int .i64 x.kind)).1;have h2:=(EC h1 (i*2+1) x.v).1;refine⟨h.1,?_⟩;rw[EW,Wk l i x hi];exact h2
theorem Se(w:World)(b o o2:Nat)(x y:Value):w.grownBy ((w.setCell ⟨b,o,none⟩ x).setCell ⟨b,o2,none⟩ y) (some b):=Ab (Aj w b o x) (Aj _ b o2 y)
def Q2E(A B:Nat)(se e:TypeId)(T:Nat->Nat)(fv k1:Value)(fs:List (Value×Int))(w:World):Prop:=
 Q0Q T A se 1 (λp:Value×Int=>[p.1]) fv fs w/\Q0Q T B 3 1 C8 k1 (fs.map Prod.snd) w/\∀p∈fs,∃n,Q0Q T 10 e 2 ftenc p.1 (List.replicate n ⟨p.2,.slice none 0 0,[]⟩) w
theorem Q5x:(prog.info? 47).map (λi=>(i.zero,i.size,i.bytes))=some (some (.slice none 0 0),1,24):=by kernel_rfl
theorem Q4V:(prog.info? 43).map (λi=>(i.zero,i.size,i.bytes))=some (some (.slice none 0 0),1,24):=by kernel_rfl
def Sd(T:Nat->Nat)(i k:Nat):Prop:=T k=1\/T k=3\/T k=6\/∃j,j<i/\T k=13+3*(j+1)
theorem Y2(h:T k=13):¬ Sd T i k:=by rintro(h1|h1|h1|⟨j,_,h1⟩)<;>omega
theorem Q3i(h:T k=13+3*(i+1)):¬ Sd T i k:=by rintro(h1|h1|h1|⟨j,_,h1⟩)<;>omega
theorem Vg(h:Sd T i k):Sd T (i+1) k:=by rcases h with h|h|h|⟨j,h1,h2⟩;{exact .inl h};{exact .inr (.inl h)};{exact .inr (.inr (.inl h))};{exact .inr (.inr (.inr ⟨j,by omega,h2⟩))}
theorem Gy(h:T k=t)(ht:t≠1/\t≠3/\t≠6/\t<13):¬ Sd T i k:=by rintro(h1|h1|h1|⟨j,_,h1⟩)<;>omega
def Rk(T:Nat->Nat)(W:Nat)(nv ov ko lv:Value)(us:List (Value×Int))(fs:List (Value×Int))(n:Nat)(w:World)(e:Ending)(w':World):Prop:=
 e=.returned (.tuple #[])/\∃T' ik il gW sP sR kG,Q1N W #[nv,ik,sP,ov,il,sR,ko,lv] w'/\Q1P T' ik il gW w'/\Q2E 4 7 47 37 T' sP sR kG w'/\gW.length=us.length+4*n/\kG.length=fs.length+4/\
  GrS (λk=>T k=1\/T k=3\/T k=6\/T k=4\/T k=7\/InH (T k)) w w'/\∀k,k<w.heap.size->¬ InH (T k)->T' k=T k
theorem Q4a(T:Nat->Nat)(W:Nat)(nv uv xv ov k0 kx ko lv:Value)(us fs:List (Value×Int))(v:Value)(xs:List VFt)(w:World) (hW:Q1N W #[nv,uv,xv,ov,k0,kx,ko,lv] w)(si:T W=1)(hN:Q1P T uv k0 us w)(hE:Q2E 4 7 47 37 T xv kx fs w)(hH:Hand T 37 v xs w)(gO:us.length+4*xs.length<=4398046511104)(bZ:fs.length<=4398046511104)(gY:xs.length<=1000000):Calls prog 83 #[.pointer (some ⟨W,0,none⟩),v] w λe w'=>Rk T W nv ov ko lv us fs xs.length w e w':=by
 obtain⟨bA,aN,rfl⟩:=hH.row.1.slice;have j0:W<w.heap.size:=Ad hW;have HH:=Ac hH;have HE:=Ac hE;have HN:=Ac hN;have HW:=Ac hW;have zj:=Ac gO;have lZ:=Ac bZ;clear hH hE hN hW gO bZ;go_enter func83,ntmps83;go_wp2;go_loopw [4] (λz w'=>∃(i:Nat) (T1:Nat->Nat) (jS jT:Value) (mQ:List (Value×Int)),i<=xs.length/\z=.int .i64 i/\Q1N W #[nv,jS,xv,ov,jT,kx,ko,lv] w'/\Q1P T1 jS jT mQ w'/\mQ.length=us.length+4*i/\GrS (Sd T i) w w'/\∀k,k<w.heap.size->(∀j,j<i->T k≠13+3*(j+1))->T1 k=T k) (λz _=>xs.length-(intOf z).toNat);case atStart=>exact⟨0,T,uv,k0,us,AG _,rfl,Aa HW,Aa HN,rfl,GrS.refl _ _,λ_ _ _=>rfl⟩
 case round=>
  obtain⟨i,T1,jS,jT,mQ,hi,rfl,hW1,b7,hu1,aZ,fY⟩:=hrel;by_cases hlt:i<xs.length;{(have cu:decide (i<xs.length)=true:=by simpa using hlt);(obtain⟨x,hx⟩:∃x,xs[i]?=some x:=⟨xs[i],AB hlt⟩);(have hrow:=aZ.row (Aa HH).row.1 (λg hg=>by have:=(Aa HH).row.2 g hg;exact Y2 this);obtain⟨g,cp,eZ,hcs⟩:=hrow.cells hx;simp only[AH,BP]at eZ;obtain⟨rfl,rfl⟩:=eZ;have x1:wr.cell? ⟨g,i*2+1,none⟩=some x.v:=hcs 1 (by omega);obtain⟨mY,qJ⟩:=(Aa HH).els i x hx;have mX:Q0Q T1 (13+3*(i+1)) 3 1 C8 x.v x.vals wr:=mY.keep2 aZ (λk hk=>Q3i hk) (λk hk hk2=>by rw[fY k hk (λj hj=>by omega)];exact hk2);obtain⟨xa,xc,tK⟩:=mX.1.slice;have iK:T1 W=1:=by rw[fY W j0 (λj hj=>by omega)];exact si);have hO:=Sy T1 (13+3*(i+1)) W nv jS xv ov jT kx ko lv mQ x.v x.vals wr hW1 iK b7 mX (by omega) (by have:=Aa zj;omega) qJ;rw[tK]at x1 hO;have ud:=Ac hu1;have eu:=Ac aZ;have lQ:=Ac fY;clear hrow hcs hx mY qJ mX tK hu1 aZ fY b7 hW1 iK;go_wp2_with fail;refine hO.mono ?_;rintro e w2⟨rfl,T2,wU,wh,wV,hW2,bJ,hu2,bI,fX⟩;(have ri:GrS (Sd T (i+1)) w w2:=by refine((Aa eu).mono (λk hk=>Vg hk)).comp bI (λk hk hn=>?_);have h1:=Aa lQ k hk (λj hj e=>hn (.inr (.inr (.inr ⟨j,by omega,e⟩))));rw[h1];rintro(h|h|h|h);{exact hn (.inl h)};{exact hn (.inr (.inl h))};{exact hn (.inr (.inr (.inl h)))};{exact hn (.inr (.inr (.inr ⟨i,by omega,h⟩)))});(have rY:∀k,k<w.heap.size->(∀j,j<i+1->T k≠13+3*(j+1))->T2 k=T k:=by intro k hk hn;have h1:=Aa lQ k hk (λj hj=>hn j (by omega));rw[fX k (AV hk (Aa eu).size) (by rw[h1];exact hn i (by omega)),h1]);have HR:=Ac (show Q1N W #[nv,wU,xv,ov,wh,kx,ko,lv] w2/\Q1P T2 wU wh wV w2/\wV.length=us.length+4*(i+1)/\GrS (Sd T (i+1)) w w2/\∀k,k<w.heap.size->(∀j,j<i+1->T k≠13+3*(j+1))->T2 k=T k from⟨hW2,bJ,by have:=Aa ud;omega,ri,rY⟩);clear hO hW2 bJ hu2 bI fX ri rY ud eu lQ;go_wp2;go_roundw;(case rel=>exact⟨i+1,T2,wU,wh,wV,by omega,by go_num,Aa HR⟩);case measure=>simp[intOf];omega}
  ·have cu:decide (i<xs.length)=false:=by simpa using hlt
   have kq:i=xs.length:=by omega
   have fe:GrS (Sd T xs.length) w wr:=by rw[<-kq];exact aZ
   have di:∀k,k<w.heap.size->(∀j,j<xs.length->T k≠13+3*(j+1))->T1 k=T k:=by rw[<-kq];exact fY
   have qP:mQ.length=us.length+4*xs.length:=by rw[<-kq];exact hu1
   have iK:T1 W=1:=by rw[di W j0 (λj hj=>by omega)];exact si
   have hV1:Q0Q T1 13 37 2 ftenc (.slice bA xs.length aN) xs wr:=(Aa HH).row.keep2 fe (λk hk=>Y2 hk) (λk hk hk2=>by rw[di k hk (λj hj=>by omega)];exact hk2);have hE1:Q2E 4 7 47 37 T1 xv kx fs wr:=by obtain⟨e1,e2,e3⟩:=Aa HE;refine⟨e1.keep2 fe (λk hk=>Gy hk (by decide)) (λk hk hk2=>by rw[di k hk (λj hj=>by omega)];exact hk2),e2.keep2 fe (λk hk=>Gy hk (by decide)) (λk hk hk2=>by rw[di k hk (λj hj=>by omega)];exact hk2),λp hp=>?_⟩;obtain⟨n,hn⟩:=e3 p hp;exact⟨n,hn.keep2 fe (λk hk=>Gy hk (by decide)) (λk hk hk2=>by rw[di k hk (λj hj=>by omega)];exact hk2)⟩
   have ud:=Ac qP;have eu:=Ac fe;have lQ:=Ac di;have et:=Ac b7;clear hu1 aZ fY kq fe di qP b7 HH HE HN HW hlt hi si;obtain⟨wo,rfl⟩:∃wo:World,wo=wr:=⟨_,rfl⟩
   obtain⟨rp,nY,rj⟩:=hE1;obtain⟨iP,cJ,sW⟩:=nY.1.slice;rw[AY]at sW;have cK:wo.cell? ⟨W,5,none⟩=some (.slice iP fs.length cJ):=by rw[hW1.cell 5,sW];rfl
   obtain⟨m,hm⟩:∃m:Int,m=-1-(fs.length:Int):=⟨_,rfl⟩
   have kg:=hV1.1.own;have PT:W<wo.heap.size:=Ad hW1;have bZ:=Aa lZ;have HV:=Ac hV1;have iT:=Ac rp;have jt:=Ac nY;have yr:=Ac rj;have HW:=Ac hW1;have SB:=Ac sW;have HM:=Ac hm;have lY:=Ac kg;clear hV1 rp nY rj hW1 sW hm kg;go_wp2;rw[<-Aa HM];clear bZ cK;have kE:=AA wo (.cells #[.int .i64 m,.slice none 0 0] 37) none;have QF:C2 37 wo.heap.size (.int .i64 m) (.slice none 0 0) (wo.alloc (.cells #[.int .i64 m,.slice none 0 0] 37)):=AR _ _;go_loopw [7] (λz w'=>∃i2:Nat,i2<=xs.length/\z=.int .i64 i2/\GrS (λk=>T1 k=13) wo w'/\Q0B 37 2 ftenc 0 (.slice bA xs.length aN) (List.replicate i2 (⟨m,.slice none 0 0,[]⟩:VFt)++xs.drop i2) w'/\C2 37 wo.heap.size (.int .i64 m) (.slice none 0 0) w'/\wo.heap.size+1<=w'.heap.size) (λz _=>xs.length-(intOf z).toNat);case atStart=>exact⟨0,AG _,rfl,GrS.of kE (by simp),by simpa using(Aa HV).1.gr kE,QF,by simp⟩
   case round=>
    clear kE QF;obtain⟨i2,pn,rfl,hG,hR,hF,tP⟩:=hrel;obtain⟨f0,f1⟩:=hF.c;by_cases hlt2:i2<xs.length;{(have xo:decide (i2<xs.length)=true:=by simpa using hlt2);(obtain⟨x,hx⟩:∃x,(List.replicate i2 (⟨m,.slice none 0 0,[]⟩:VFt)++xs.drop i2)[i2]?=some x:=⟨_,AB (by simp;omega)⟩);obtain⟨g,cp,eZ,hcs⟩:=hR.cells hx;simp only[AH]at eZ;obtain⟨rfl,hzz,rfl⟩:=eZ;clear hzz;have x0:wr.cell? ⟨g,i2*2,none⟩=some (.int .i64 x.kind):=hcs 0 (by omega);have x1:wr.cell? ⟨g,i2*2+1,none⟩=some x.v:=hcs 1 (by omega);have z0:=hR.fz (i2*2);have z1:=hR.fz (i2*2+1);have vq:T1 g=13:=(Aa HV).2 g rfl;have ig:g<wo.heap.size:=(Aa lY g rfl).2;have hR2:=FtsAt.stored hR i2 ⟨m,.slice none 0 0,[]⟩ (by simp;omega);rw[S1 _ xs i2 hlt2]at hR2;have aX:=Se wr g (i2*2) (i2*2+1) (.int .i64 m) (.slice none 0 0);have bI:=hG.then aX (λk hk=>by simp at hk;subst hk;exact .inr vq);have hF2:=hF.kept aX (by simp;omega);have cO:=Ac hR2;have ui:=Ac bI;have HF2:=Ac hF2;have wk:=AU tP aX.size;clear hcs hx hR hG vq hR2 bI hF2 aX hF;go_wp2;go_roundw;(case rel=>exact⟨i2+1,by omega,by go_num,Aa ui,Aa cO,Aa HF2,wk⟩);case measure=>simp[intOf];omega}
    ·have xo:decide (i2<xs.length)=false:=by simpa using hlt2
     have e1:List.replicate i2 (⟨m,.slice none 0 0,[]⟩:VFt)++xs.drop i2=List.replicate xs.length (⟨m,.slice none 0 0,[]⟩:VFt):=by rw[BD (by omega),BM];congr 1;omega
     rw[e1]at hR;clear e1 hlt2 pn;generalize kX:xs.length=n at *;have a7:=AA wr (.cells #[.int .i64 m,.slice none 0 0] 37) none;have hs1:Q0B 37 2 ftenc 0 (.slice (some ⟨wr.heap.size,0,none⟩) 1 1) (List.replicate 1 (⟨m,.slice none 0 0,[]⟩:VFt)) (wr.alloc (.cells #[.int .i64 m,.slice none 0 0] 37)):=(Q0B.litn Cx wr (List.replicate 1 (⟨m,.slice none 0 0,[]⟩:VFt)) #[.int .i64 m,.slice none 0 0] rfl (by simp[maxLen])).weak (AG _);have lB:=hR.gr a7;go_wp2_with (at_builtin;refine Cg rfl _ _ 47 rfl underlying47 Q1Q rfl (by decide) rfl lB rfl hs1 (by simp) (λy hy=>Fc y (by rw[DC hy];rfl)) (by unfold maxLen;simp;omega) (by simp;omega) ?_);intro v1 w1 aP eM;obtain⟨g1,aS,rfl⟩:=eM.form;have jB:C2 37 wo.heap.size (.int .i64 m) (.slice none 0 0) w1:=eM.block (hF.kept a7 (by simp)) (λe=>by have:=(Aa lY _ e).2;omega);obtain⟨f10,f11⟩:=jB.c;have eb:Q0B 37 2 ftenc 0 (.slice (some ⟨g1,0,none⟩) (n+1) aS) (List.replicate (n+1) (⟨m,.slice none 0 0,[]⟩:VFt)) w1:=by have:=aP;rw[<-Ez n (⟨m,.slice none 0 0,[]⟩:VFt) 1];exact this
     have eE:∀g,(Value.slice bA n aN).ownBlock=some g->g<(wr.alloc (.cells #[.int .i64 m,.slice none 0 0] 37)).heap.size:=λg hg=>AV (Aa lY g hg).2 (AU hG.size a7.size);have gB:=eM.kin eE;have hR1:Q0B 37 2 ftenc 0 (.slice bA n aN) (List.replicate (n+0) (⟨m,.slice none 0 0,[]⟩:VFt)) w1:=Kin.keepG (v:=.slice bA n aN) (v1:=.slice bA n aN) (j:=0) (Fe _ _ hR) lB eb eM (AG _);have oW:=(hG.then a7 (by simp)).trans (eM.gr (λg hg=>(Aa HV).2 g hg));have hown1:=eM.own;have sB:wo.heap.size<=(wr.alloc (.cells #[.int .i64 m,.slice none 0 0] 37)).heap.size:=AU hG.size a7.size;have aO:=AA w1 (.cells #[.int .i64 m,.slice none 0 0,.int .i64 m,.slice none 0 0] 37) none;have hs2:Q0B 37 2 ftenc 0 (.slice (some ⟨w1.heap.size,0,none⟩) 2 2) (List.replicate 2 (⟨m,.slice none 0 0,[]⟩:VFt)) (w1.alloc (.cells #[.int .i64 m,.slice none 0 0,.int .i64 m,.slice none 0 0] 37)):=(Q0B.litn Cx w1 (List.replicate 2 (⟨m,.slice none 0 0,[]⟩:VFt)) #[.int .i64 m,.slice none 0 0,.int .i64 m,.slice none 0 0] rfl (by simp[maxLen])).weak (AG _);have jL:=hR1.gr aO;have lj:=eb.gr aO;have sJ:=Ac gB;have lW:=Ac hown1;clear a7 hs1 lB aP eM hR1 hR hG eE gB hown1 eb;go_wp2_with (at_builtin;refine Cg rfl _ _ 47 rfl underlying47 Q1Q rfl (by decide) rfl jL rfl hs2 (by simp) (λy hy=>Fc y (by rw[DC hy];rfl)) (by unfold maxLen;simp;omega) (by simp;omega) ?_);intro v2 w2 hv2 hl2;obtain⟨g2,cap2,rfl⟩:=hl2.form;have hF2:C2 37 wo.heap.size (.int .i64 m) (.slice none 0 0) w2:=hl2.block (jB.kept aO (by simp)) (λe=>by have:=(Aa lY _ e).2;omega);obtain⟨f20,f21⟩:=hF2.c;have fG:Q0B 37 2 ftenc 0 (.slice (some ⟨g2,0,none⟩) (n+2) cap2) (List.replicate (n+2) (⟨m,.slice none 0 0,[]⟩:VFt)) w2:=by have:=hv2;rw[<-Ez n (⟨m,.slice none 0 0,[]⟩:VFt) 2];exact this
     have eE:∀g,(Value.slice bA n aN).ownBlock=some g->g<(w1.alloc (.cells #[.int .i64 m,.slice none 0 0,.int .i64 m,.slice none 0 0] 37)).heap.size:=λg hg=>AV (Aa lY g hg).2 (AU oW.size aO.size);have gA:=hl2.kin eE;have hR2:Q0B 37 2 ftenc 0 (.slice bA n aN) (List.replicate (n+0) (⟨m,.slice none 0 0,[]⟩:VFt)) w2:=Kin.keepG (v:=.slice bA n aN) (v1:=.slice bA n aN) (j:=0) (Fe _ _ jL) jL fG hl2 (AG _);have kN:=Kin.keepG (Aa sJ) lj fG hl2 (by omega);have rh:=(oW.then aO (by simp)).trans (hl2.gr (λg hg=>(Aa HV).2 g hg));have hown2:=hl2.own;have sA:wo.heap.size<=(w1.alloc (.cells #[.int .i64 m,.slice none 0 0,.int .i64 m,.slice none 0 0] 37)).heap.size:=AU oW.size aO.size;have bX:=AA w2 (.cells #[.int .i64 m,.slice none 0 0,.int .i64 m,.slice none 0 0,.int .i64 m,.slice none 0 0] 37) none;have hs3:Q0B 37 2 ftenc 0 (.slice (some ⟨w2.heap.size,0,none⟩) 3 3) (List.replicate 3 (⟨m,.slice none 0 0,[]⟩:VFt)) (w2.alloc (.cells #[.int .i64 m,.slice none 0 0,.int .i64 m,.slice none 0 0,.int .i64 m,.slice none 0 0] 37)):=(Q0B.litn Cx w2 (List.replicate 3 (⟨m,.slice none 0 0,[]⟩:VFt)) #[.int .i64 m,.slice none 0 0,.int .i64 m,.slice none 0 0,.int .i64 m,.slice none 0 0] rfl (by simp[maxLen])).weak (AG _);have jm:=hR2.gr bX;have kM:=kN.gr bX;have kL:=fG.gr bX;have kI:=Ac gA;have lV:=Ac hown2;clear aO hs2 jL lj hv2 hl2 hR2 kN oW eE gA hown2 fG;go_wp2_with (at_builtin;refine Cg rfl _ _ 47 rfl underlying47 Q1Q rfl (by decide) rfl jm rfl hs3 (by simp) (λy hy=>Fc y (by rw[DC hy];rfl)) (by unfold maxLen;simp;omega) (by simp;omega) ?_);intro v3 w3 hv3 hl3;obtain⟨g3,b8,rfl⟩:=hl3.form;have bV:Q0B 37 2 ftenc 0 (.slice (some ⟨g3,0,none⟩) (n+3) b8) (List.replicate (n+3) (⟨m,.slice none 0 0,[]⟩:VFt)) w3:=by have:=hv3;rw[<-Ez n (⟨m,.slice none 0 0,[]⟩:VFt) 3];exact this
     have dm:Q0B 37 2 ftenc 0 (.slice bA n aN) (List.replicate (n+0) (⟨m,.slice none 0 0,[]⟩:VFt)) w3:=Kin.keepG (v:=.slice bA n aN) (v1:=.slice bA n aN) (j:=0) (Fe _ _ jm) jm bV hl3 (AG _);have gu:=Kin.keepG (Aa sJ) kM bV hl3 (by omega);have gq:=Kin.keepG (Aa kI) kL bV hl3 (by omega);have jM:=(rh.then bX (by simp)).trans (hl3.gr (λg hg=>(Aa HV).2 g hg));have fu:=hl3.own;have jo:=jM.size;have gI:=rh.size;have ho:∀v':Value,(v'=.slice bA n aN\/v'=.slice (some ⟨g1,0,none⟩) (n+1) aS\/v'=.slice (some ⟨g2,0,none⟩) (n+2) cap2\/v'=.slice (some ⟨g3,0,none⟩) (n+3) b8)->∀g,v'.ownBlock=some g->(g<wo.heap.size/\T1 g=13)\/wo.heap.size<=g:=by have hV:∀g,(Value.slice bA n aN).ownBlock=some g->(g<wo.heap.size/\T1 g=13)\/wo.heap.size<=g:=λg hg=>.inl ⟨(Aa lY g hg).2,(Aa HV).2 g hg⟩;rintro v' (rfl|rfl|rfl|rfl) g hg;{exact hV g hg};{rcases Aa lW g hg with h|h;{exact hV g h};{exact .inr (AU sB h)}};{rcases Aa lV g hg with h|h;{exact hV g h};{exact .inr (AU sA h)}};{rcases fu g hg with h|h;{exact hV g h};{exact .inr (AU (AU gI bX.size) h)}}
     have HO:=Ac ho;have gy:=jM.row (Aa iT).1 (λg hg=>by have:=(Aa iT).2 g hg;omega);have kj:=jM.row (Aa jt).1 (λg hg=>by have:=(Aa jt).2 g hg;omega);have hW3:=(Aa HW).grs jM (by omega);clear bX hs3 jm kM kL hv3 hl3 fu ho rh gI lW lV sJ kI;have zq:=Ac kX;clear kX;obtain⟨jQ,dJ,rfl⟩:=gy.slice;obtain⟨L4,hL4⟩:∃L4:List (Value×Int),L4=[(.slice bA n aN,m),(.slice (some ⟨g1,0,none⟩) (n+1) aS,m),(.slice (some ⟨g2,0,none⟩) (n+2) cap2,m),(.slice (some ⟨g3,0,none⟩) (n+3) b8,m)]:=⟨_,rfl⟩
     have cG:L4.length=4:=by rw[hL4];rfl
     have dO:=AA w3 (.cells #[.slice bA n aN,.slice (some ⟨g1,0,none⟩) (n+1) aS,.slice (some ⟨g2,0,none⟩) (n+2) cap2,.slice (some ⟨g3,0,none⟩) (n+3) b8] 47) none;have jV:Q0B 47 1 (λp:Value×Int=>[p.1]) 0 (.slice (some ⟨w3.heap.size,0,none⟩) 4 4) L4 (w3.alloc (.cells #[.slice bA n aN,.slice (some ⟨g1,0,none⟩) (n+1) aS,.slice (some ⟨g2,0,none⟩) (n+2) cap2,.slice (some ⟨g3,0,none⟩) (n+3) b8] 47)):=by have:=(Q0B.litn (e:=47) (size:=1) (enc:=λp:Value×Int=>[p.1]) (λ_=>rfl) w3 L4 #[.slice bA n aN,.slice (some ⟨g1,0,none⟩) (n+1) aS,.slice (some ⟨g2,0,none⟩) (n+2) cap2,.slice (some ⟨g3,0,none⟩) (n+3) b8] (by rw[hL4];rfl) (by rw[cG];decide)).weak (AG _);rw[cG]at this;exact this
     have fw:∀y∈L4,∀c∈[y.1],c.oneCell'=true:=by intro y hy c hc;rw[hL4]at hy;simp only[AZ]at hc;subst hc;simp only[CQ,GG,KC]at hy;rcases hy with rfl|rfl|rfl|rfl<;>rfl
     have rU:=Aa lZ;have hb1:fs.length+L4.length<=maxLen:=by rw[cG];unfold maxLen;omega
     have hb2:(fs.length+L4.length)*24<=140737488355328:=by rw[cG];omega
     have hb3:0<L4.length:=by rw[cG];decide
     have fP:=Ac hb1;have fq:=Ac hb2;have lh:=Ac hb3;have eX:=Ac fw;have RQ:=Ac jV;have kO:=gy.gr dO;have rR:=hW3.gr dO (by simp);have rH:(w3.alloc (.cells #[.slice bA n aN,.slice (some ⟨g1,0,none⟩) (n+1) aS,.slice (some ⟨g2,0,none⟩) (n+2) cap2,.slice (some ⟨g3,0,none⟩) (n+3) b8] 47)).cell? ⟨W,2,none⟩=some (.slice jQ fs.length dJ):=rR.cell 2;have rI:w3.cell? ⟨W,2,none⟩=some (.slice jQ fs.length dJ):=hW3.cell 2;have sr:=Ac hL4;have iR:=Ac cG;clear hb1 hb2 hb3 fw jV hL4 cG rU;have uw:(Value.slice jQ fs.length dJ).ownBlock≠some W:=λe=>by have:=(Aa iT).2 W e;omega
     have wN:=Ac uw;clear uw;go_wp2_with (at_builtin;refine Cg rfl _ _ 69 rfl underlying69 Q5x rfl (by decide) rfl kO rfl (Aa RQ) (Aa lh) (Aa eX) (Aa fP) (Aa fq) ?_);intro u5 w5 o9 aK;obtain⟨g5,aG,rfl⟩:=aK.form;rw[Aa iR]at o9 aK;have gC:Q1N W #[nv,jS,.slice jQ fs.length dJ,ov,jT,kx,ko,lv] w5:=aK.block rR (Aa wN);have yT:w5.cell? ⟨W,2,none⟩=some (.slice jQ fs.length dJ):=gC.cell 2;have z51:=gC.fz 2;have iL:∀g,(Value.slice jQ fs.length dJ).ownBlock=some g->g<wo.heap.size/\T1 g=4:=λg hg=>⟨((Aa iT).1.own g hg).2,(Aa iT).2 g hg⟩
     have eR:∀g,kx.ownBlock=some g->g<wo.heap.size/\T1 g=7:=λg hg=>⟨((Aa jt).1.own g hg).2,(Aa jt).2 g hg⟩
     have aX:=Aj w5 W 2 (.slice (some ⟨g5,0,none⟩) (fs.length+4) aG);have j0:W<wo.heap.size:=Ad (Aa HW);have b9:∀(v':Value) (k:Nat),(v'=.slice bA n aN\/v'=.slice (some ⟨g1,0,none⟩) (n+1) aS\/v'=.slice (some ⟨g2,0,none⟩) (n+2) cap2\/v'=.slice (some ⟨g3,0,none⟩) (n+3) b8)->Q0B 37 2 ftenc 0 v' (List.replicate k (⟨m,.slice none 0 0,[]⟩:VFt)) w3->Q0B 37 2 ftenc 0 v' (List.replicate k (⟨m,.slice none 0 0,[]⟩:VFt)) (w5.setCell ⟨W,2,none⟩ (.slice (some ⟨g5,0,none⟩) (fs.length+4) aG)):=by intro v' k hv' h;have h1:=aK.keepRow (h.gr dO) (λg hg e=>by have h2:=iL g e;rcases Aa HO v' hv' g hg with h3|h3<;>omega);refine h1.other aX (λg hg e=>?_);simp only[AE]at e;subst e;rcases Aa HO v' hv' W hg with h3|h3<;>omega
     have hw0:=b9 _ _ (.inl rfl) dm;have hw1:=b9 _ _ (.inr (.inl rfl)) gu;have hw2:=b9 _ _ (.inr (.inr (.inl rfl))) gq;have hw3:=b9 _ _ (.inr (.inr (.inr rfl))) bV;have qw:Q0B 3 1 C8 0 kx (fs.map Prod.snd) (w5.setCell ⟨W,2,none⟩ (.slice (some ⟨g5,0,none⟩) (fs.length+4) aG)):=by have h1:=aK.keepRow (kj.gr dO) (λg hg e=>by have h2:=iL g e;have h3:=eR g hg;omega);refine h1.other aX (λg hg e=>?_);simp only[AE]at e;subst e;have h3:=eR W hg;omega
     have qN:Q0B 47 1 (λp:Value×Int=>[p.1]) 0 (.slice (some ⟨g5,0,none⟩) (fs.length+4) aG) (fs++L4) (w5.setCell ⟨W,2,none⟩ (.slice (some ⟨g5,0,none⟩) (fs.length+4) aG)):=by refine o9.other aX (λg hg e=>?_);simp only[AE]at e;subst e;rcases aK.own W hg with h2|h2;{exact Aa wN h2};{have h4:=dO.size;omega}
     have oP:Q1N W #[nv,jS,.slice (some ⟨g5,0,none⟩) (fs.length+4) aG,ov,jT,kx,ko,lv] (w5.setCell ⟨W,2,none⟩ (.slice (some ⟨g5,0,none⟩) (fs.length+4) aG)):=gC.set 2 _;have bM:g5<w3.heap.size+1->T1 g5=4/\g5<wo.heap.size:=by intro hlt;rcases aK.own g5 rfl with h2|h2;{exact⟨(iL g5 h2).2,(iL g5 h2).1⟩};{simp at h2;omega}
     have dX:GrS (λk=>T1 k=1\/T1 k=4\/T1 k=7\/T1 k=13) wo (w5.setCell ⟨W,2,none⟩ (.slice (some ⟨g5,0,none⟩) (fs.length+4) aG)):=by have h1:GrS (λk=>T1 k=1\/T1 k=4\/T1 k=7\/T1 k=13) wo w3:=jM.mono (λk hk=>.inr (.inr (.inr hk)));have h2:=(h1.then dO (by simp)).trans (aK.gr (λg hg=>.inr (.inl (iL g hg).2)));exact h2.then aX (λg hg=>by simp only[AE]at hg;subst hg;exact .inr (.inl iK))
     obtain⟨w6,iX⟩:∃w6,w5.setCell ⟨W,2,none⟩ (.slice (some ⟨g5,0,none⟩) (fs.length+4) aG)=w6:=⟨_,rfl⟩
     have MG:w5.heap.size=w6.heap.size:=by rw[<-iX];simp[World.setCell]
     have MH:w3.heap.size+1<=w5.heap.size:=by have h1:GrS (λk=>T1 k=4) (w3.alloc (.cells #[.slice bA n aN,.slice (some ⟨g1,0,none⟩) (n+1) aS,.slice (some ⟨g2,0,none⟩) (n+2) cap2,.slice (some ⟨g3,0,none⟩) (n+3) b8] 47)) w5:=aK.gr (λg hg=>(iL g hg).2);have h2:=h1.size;simp at h2;omega
     have NG:g5<w5.heap.size:=(o9.own g5 rfl).2;have hlt3:∀(v':Value) (k:Nat),Q0B 37 2 ftenc 0 v' (List.replicate k (⟨m,.slice none 0 0,[]⟩:VFt)) w3->∀g,v'.ownBlock=some g->g<w3.heap.size:=λv' k h g hg=>(h.own g hg).2;have q0:=hlt3 _ _ dm;have q1:=hlt3 _ _ gu;have q2:=hlt3 _ _ gq;have q3:=hlt3 _ _ bV;rw[iX]at hw0 hw1 hw2 hw3 qw qN oP dX;have hk0:=Aa SB;subst hk0;have jJ:=Ah (AA w6 (.cells #[.int .i64 m,.int .i64 m,.int .i64 m,.int .i64 m] 3) none);have qb:Q0L 0 (.slice (some ⟨w6.heap.size,0,none⟩) 4 4) (List.replicate 4 m) (w6.alloc (.cells #[.int .i64 m,.int .i64 m,.int .i64 m,.int .i64 m] 3)).drew:=((Q0B.litn Av w6 (List.replicate 4 m) #[.int .i64 m,.int .i64 m,.int .i64 m,.int .i64 m] rfl (by simp[maxLen])).weak (AG _)).heap rfl;have RA:w6.cell? ⟨W,5,none⟩=some (.slice iP fs.length cJ):=oP.cell 5;have QZ:(w6.alloc (.cells #[.int .i64 m,.int .i64 m,.int .i64 m,.int .i64 m] 3)).cell? ⟨W,5,none⟩=some (.slice iP fs.length cJ):=(AA w6 _ none).cell RA (by simp);obtain⟨WX,oO⟩:∃WX,(w6.alloc (.cells #[.int .i64 m,.int .i64 m,.int .i64 m,.int .i64 m] 3)).drew=WX:=⟨_,rfl⟩
     have MF:WX.heap.size=w6.heap.size+1:=by rw[<-oO];simp[World.drew]
     rw[oO]at jJ qb;have vS:=qw.gr jJ;have wD:(Value.slice iP fs.length cJ).ownBlock≠some W:=λe=>by have:=eR W e;omega
     have iM:∀g7 au w7,Q0B 3 1 C8 0 (.slice (some ⟨g7,0,none⟩) (fs.length+4) au) (fs.map Prod.snd++List.replicate 4 m) w7->Q0O (.slice iP fs.length cJ) (.slice (some ⟨g7,0,none⟩) (fs.length+4) au) fs.length 4 WX w7->w7.cell? ⟨W,5,none⟩=some (.slice iP fs.length cJ)/\w7.frozen? ⟨W,5,none⟩=false/\Rk T W nv ov ko lv us fs n w (.returned (.tuple #[])) (w7.setCell ⟨W,5,none⟩ (.slice (some ⟨g7,0,none⟩) (fs.length+4) au)):=by intro g7 au w7 iY bP;have rS:Q1N W #[nv,jS,.slice (some ⟨g5,0,none⟩) (fs.length+4) aG,ov,jT,.slice iP fs.length cJ,ko,lv] w7:=bP.block (oP.gr jJ (by simp)) wD;have iE:=Aj w7 W 5 (.slice (some ⟨g7,0,none⟩) (fs.length+4) au);have jN:=((dX.then jJ (by simp)).trans (bP.gr (λg hg=>.inr (.inr (.inl (eR g hg).2))))).then iE (λg hg=>by simp only[AE]at hg;subst hg;exact .inr (.inl iK));(have cq:g7<w6.heap.size+1->T1 g7=7/\g7<wo.heap.size:=by intro hlt;rcases bP.own g7 rfl with h2|h2;{exact⟨(eR g7 h2).2,(eR g7 h2).1⟩};{omega});(have bz:∀ {α:Type} {e:TypeId} {size:Nat} {enc:α->List Value} (x:Value) (y:List α),Q0B e size enc 0 x y w6->(∀g,x.ownBlock=some g->(g<wo.heap.size/\T1 g≠7/\T1 g≠1)\/wo.heap.size<=g)->Q0B e size enc 0 x y (w7.setCell ⟨W,5,none⟩ (.slice (some ⟨g7,0,none⟩) (fs.length+4) au)):=by intro α e size enc x y h hx;have h1:=bP.keepRow (h.gr jJ) (λg hg e=>by have h2:=eR g e;rcases hx g hg with h3|h3<;>omega);refine h1.other iE (λg hg e=>?_);simp only[AE]at e;subst e;rcases hx W hg with h3|h3<;>omega);(have pL:L4.map Prod.snd=List.replicate 4 m:=by rw[Aa sr];rfl);(obtain⟨T',bH⟩:∃T':Nat->Nat,∀k,T' k=if k<wo.heap.size then (if T1 k=13 then 10 else T1 k)else if k=g5 then 4 else if k=g7 then 7 else 10:=⟨_,λ_=>rfl⟩);(have dG:∀k,k<wo.heap.size->T1 k≠13->T' k=T1 k:=λk h1 h2=>by rw[bH,AQ h1,AO h2]);(have ZU:Q1P T' jS jT mQ (w7.setCell ⟨W,5,none⟩ (.slice (some ⟨g7,0,none⟩) (fs.length+4) au)):=by obtain⟨a1,a2,a3⟩:=Aa et;refine⟨a1.keep2 jN (λk hk=>by omega) (λk hk hk2=>by rw[dG k hk (by omega)];exact hk2),a2.keep2 jN (λk hk=>by omega) (λk hk hk2=>by rw[dG k hk (by omega)];exact hk2),λp hp=>?_⟩;obtain⟨j,hj⟩:=a3 p hp;exact⟨j,hj.keep2 jN (λk hk=>by omega) (λk hk hk2=>by rw[dG k hk (by omega)];exact hk2)⟩);(have nU:GrS (λk=>T k=1\/T k=3\/T k=6\/T k=4\/T k=7\/InH (T k)) w (w7.setCell ⟨W,5,none⟩ (.slice (some ⟨g7,0,none⟩) (fs.length+4) au)):=by refine((Aa eu).mono (λk hk=>?_)).comp jN (λk hk hn=>?_);{rcases hk with h|h|h|⟨j,_,h⟩;{exact .inl h};{exact .inr (.inl h)};{exact .inr (.inr (.inl h))};{exact .inr (.inr (.inr (.inr (.inr ⟨by omega,by omega⟩))))}};{have hI:¬ InH (T k):=λh=>hn (.inr (.inr (.inr (.inr (.inr h)))));have h1:=Aa lQ k hk (λj hj e=>hI ⟨by omega,by omega⟩);rw[h1];rintro(h|h|h|h);{exact hn (.inl h)};{exact hn (.inr (.inr (.inr (.inl h))))};{exact hn (.inr (.inr (.inr (.inr (.inl h)))))};{exact hI ⟨by omega,by omega⟩}});(have zW:∀k,k<w.heap.size->¬ InH (T k)->T' k=T k:=by intro k hk hI;have h1:=Aa lQ k hk (λj hj e=>hI ⟨by omega,by omega⟩);rw[dG k (AV hk (Aa eu).size) (by rw[h1];intro e;exact hI ⟨by omega,by omega⟩),h1]);refine⟨rS.cell 5,rS.fz 5,rfl,T',jS,jT,mQ,.slice (some ⟨g5,0,none⟩) (fs.length+4) aG,.slice (some ⟨g7,0,none⟩) (fs.length+4) au,fs++L4,rS.set 5 _,ZU,⟨⟨?_,?_⟩,⟨?_,?_⟩,?_⟩,Aa ud,by rw[AL,Aa iR],nU,zW⟩;{refine bz _ _ qN (λg hg=>?_);simp only[Value.ownBlock,AE]at hg;subst hg;by_cases hlt:g5<wo.heap.size;{have:=bM (by omega);exact .inl ⟨hlt,by omega,by omega⟩};{exact .inr (by omega)}};{intro g hg;simp only[Value.ownBlock,AE]at hg;subst hg;by_cases hlt:g5<wo.heap.size;{have:=bM (by omega);rw[dG g5 hlt (by omega)];exact this.1};{rw[bH,AO hlt,AQ rfl]}};{rw[BZ,pL];refine iY.other iE (λg hg e=>?_);simp only[Value.ownBlock,AE]at hg e;subst hg;subst e;have:=cq (by omega);omega};{intro g hg;simp only[Value.ownBlock,AE]at hg;subst hg;by_cases hlt:g7<wo.heap.size;{have:=cq (by omega);rw[dG g7 hlt (by omega)];exact this.1};{(have hne:g7≠g5:=by intro e;have:=cq (by omega);omega);rw[bH,AO hlt,AO hne,AQ rfl]}};{(have hnew:∀(v':Value) (k:Nat),(v'=.slice bA n aN\/v'=.slice (some ⟨g1,0,none⟩) (n+1) aS\/v'=.slice (some ⟨g2,0,none⟩) (n+2) cap2\/v'=.slice (some ⟨g3,0,none⟩) (n+3) b8)->Q0B 37 2 ftenc 0 v' (List.replicate k (⟨m,.slice none 0 0,[]⟩:VFt)) w6->(∀g,v'.ownBlock=some g->g<w3.heap.size)->∃j,Q0Q T' 10 37 2 ftenc v' (List.replicate j (⟨m,.slice none 0 0,[]⟩:VFt)) (w7.setCell ⟨W,5,none⟩ (.slice (some ⟨g7,0,none⟩) (fs.length+4) au)):=by intro v' k hv' h hlt;refine⟨k,bz v' _ h (λg hg=>?_),λg hg=>?_⟩;{rcases Aa HO v' hv' g hg with h3|h3;{exact .inl ⟨h3.1,by omega,by omega⟩};{exact .inr h3}};{rcases Aa HO v' hv' g hg with h3|h3;{rw[bH,AQ h3.1,AQ h3.2]};{have hl:=hlt g hg;(have MW:g≠g5:=by intro e;have:=bM (by omega);omega);(have kY:g≠g7:=by intro e;have:=cq (by omega);omega);rw[bH,AO (by omega),AO MW,AO kY]}});intro p hp;rcases BA.1 hp with hp|hp;{obtain⟨j,hj⟩:=Aa yr p hp;exact⟨j,hj.keep2 jN (λk hk=>by omega) (λk hk hk2=>by rw[dG k hk (by omega)];exact hk2)⟩};{rw[Aa sr]at hp;simp only[CQ,GG,KC]at hp;rcases hp with rfl|rfl|rfl|rfl;{exact hnew _ _ (.inl rfl) hw0 q0};{exact hnew _ _ (.inr (.inl rfl)) hw1 q1};{exact hnew _ _ (.inr (.inr (.inl rfl))) hw2 q2};{exact hnew _ _ (.inr (.inr (.inr rfl))) hw3 q3}}}
     have js:=Ac iM;have SA:=Ac vS;have RO:=Ac qb;have RF:=Ac oO;have RG:=Ac iX;have rU:=Aa lZ;have hb1:(fs.map Prod.snd).length+(List.replicate 4 m).length<=maxLen:=by rw[AY,BN];unfold maxLen;omega
     have hb2:((fs.map Prod.snd).length+(List.replicate 4 m).length)*8<=140737488355328:=by rw[AY,BN];omega
     have sO:=Ac hb1;have sN:=Ac hb2;clear iM vS qb oO hb1 hb2 rU qw qN oP dX hw0 hw1 hw2 hw3 b9 hlt3 q0 q1 q2 q3 dm gu gq bV bM iL eR o9 aK gy kO kj dO hW3 rR gC rH rI jM aX jJ wD iX;go_wp2_with fail;rw[Aa iR,Aa RG];go_region_law (rw[Aa RF];refine E4 rfl _ _ 35 rfl underlying35 Q0I rfl (by decide) (by simp[Act.eval]) (Aa SA) (by simp[Act.eval]) (Aa RO) (by simp) (λy _=>Cb y) (Aa sO) (Aa sN) ?_;intro kv w7 iY bP;rw[AY,BN]at bP;obtain⟨g7,au,rfl⟩:=bP.form;obtain⟨f1,f2,f3⟩:=Aa js g7 au w7 iY bP;have F3:=Ac f3;clear f3 iY bP);all_goals go_wp2_with fail;go_end0;have F4:=Aa F3;rw[<-Aa zq]at F4;exact F4
def Gv(T:Nat->Nat)(W:Nat)(nv ov ko lv:Value)(us:List (Value×Int))(fs:List (Value×Int))(n:Nat)(w:World)(e:Ending)(w':World):Prop:=
 e=.returned (.tuple #[])/\∃T' ik il gW sP sR kG,Q1N W #[nv,ik,ov,sP,il,ko,sR,lv] w'/\Q1P T' ik il gW w'/\Q2E 5 8 43 52 T' sP sR kG w'/\gW.length=us.length+4*n/\kG.length=fs.length+4/\
  GrS (λk=>T k=1\/T k=3\/T k=6\/T k=5\/T k=8\/InH (T k)) w w'/\∀k,k<w.heap.size->¬ InH (T k)->T' k=T k
theorem Q1n(T:Nat->Nat)(W:Nat)(nv uv xv ov k0 kx ko lv:Value)(us fs:List (Value×Int))(v:Value)(xs:List VFt)(w:World) (hW:Q1N W #[nv,uv,ov,xv,k0,ko,kx,lv] w)(si:T W=1)(hN:Q1P T uv k0 us w)(hE:Q2E 5 8 43 52 T xv kx fs w)(hH:Hand T 52 v xs w)(gO:us.length+4*xs.length<=4398046511104)(bZ:fs.length<=4398046511104)(gY:xs.length<=1000000):Calls prog 58 #[.pointer (some ⟨W,0,none⟩),v] w λe w'=>Gv T W nv ov ko lv us fs xs.length w e w':=by
 obtain⟨bA,aN,rfl⟩:=hH.row.1.slice;have j0:W<w.heap.size:=Ad hW;have HH:=Ac hH;have HE:=Ac hE;have HN:=Ac hN;have HW:=Ac hW;have zj:=Ac gO;have lZ:=Ac bZ;clear hH hE hN hW gO bZ;go_enter func58,ntmps58;go_wp2;go_loopw [4] (λz w'=>∃(i:Nat) (T1:Nat->Nat) (jS jT:Value) (mQ:List (Value×Int)),i<=xs.length/\z=.int .i64 i/\Q1N W #[nv,jS,ov,xv,jT,ko,kx,lv] w'/\Q1P T1 jS jT mQ w'/\mQ.length=us.length+4*i/\GrS (Sd T i) w w'/\∀k,k<w.heap.size->(∀j,j<i->T k≠13+3*(j+1))->T1 k=T k) (λz _=>xs.length-(intOf z).toNat);case atStart=>exact⟨0,T,uv,k0,us,AG _,rfl,Aa HW,Aa HN,rfl,GrS.refl _ _,λ_ _ _=>rfl⟩
 case round=>
  obtain⟨i,T1,jS,jT,mQ,hi,rfl,hW1,b7,hu1,aZ,fY⟩:=hrel;by_cases hlt:i<xs.length;{(have cu:decide (i<xs.length)=true:=by simpa using hlt);(obtain⟨x,hx⟩:∃x,xs[i]?=some x:=⟨xs[i],AB hlt⟩);(have hrow:=aZ.row (Aa HH).row.1 (λg hg=>by have:=(Aa HH).row.2 g hg;exact Y2 this);obtain⟨g,cp,eZ,hcs⟩:=hrow.cells hx;simp only[AH,BP]at eZ;obtain⟨rfl,rfl⟩:=eZ;have x1:wr.cell? ⟨g,i*2+1,none⟩=some x.v:=hcs 1 (by omega);obtain⟨mY,qJ⟩:=(Aa HH).els i x hx;have mX:Q0Q T1 (13+3*(i+1)) 3 1 C8 x.v x.vals wr:=mY.keep2 aZ (λk hk=>Q3i hk) (λk hk hk2=>by rw[fY k hk (λj hj=>by omega)];exact hk2);obtain⟨xa,xc,tK⟩:=mX.1.slice;have iK:T1 W=1:=by rw[fY W j0 (λj hj=>by omega)];exact si);have hO:=Sy T1 (13+3*(i+1)) W nv jS ov xv jT ko kx lv mQ x.v x.vals wr hW1 iK b7 mX (by omega) (by have:=Aa zj;omega) qJ;rw[tK]at x1 hO;have ud:=Ac hu1;have eu:=Ac aZ;have lQ:=Ac fY;clear hrow hcs hx mY qJ mX tK hu1 aZ fY b7 hW1 iK;go_wp2_with fail;refine hO.mono ?_;rintro e w2⟨rfl,T2,wU,wh,wV,hW2,bJ,hu2,bI,fX⟩;(have ri:GrS (Sd T (i+1)) w w2:=by refine((Aa eu).mono (λk hk=>Vg hk)).comp bI (λk hk hn=>?_);have h1:=Aa lQ k hk (λj hj e=>hn (.inr (.inr (.inr ⟨j,by omega,e⟩))));rw[h1];rintro(h|h|h|h);{exact hn (.inl h)};{exact hn (.inr (.inl h))};{exact hn (.inr (.inr (.inl h)))};{exact hn (.inr (.inr (.inr ⟨i,by omega,h⟩)))});(have rY:∀k,k<w.heap.size->(∀j,j<i+1->T k≠13+3*(j+1))->T2 k=T k:=by intro k hk hn;have h1:=Aa lQ k hk (λj hj=>hn j (by omega));rw[fX k (AV hk (Aa eu).size) (by rw[h1];exact hn i (by omega)),h1]);have HR:=Ac (show Q1N W #[nv,wU,ov,xv,wh,ko,kx,lv] w2/\Q1P T2 wU wh wV w2/\wV.length=us.length+4*(i+1)/\GrS (Sd T (i+1)) w w2/\∀k,k<w.heap.size->(∀j,j<i+1->T k≠13+3*(j+1))->T2 k=T k from⟨hW2,bJ,by have:=Aa ud;omega,ri,rY⟩);clear hO hW2 bJ hu2 bI fX ri rY ud eu lQ;go_wp2;go_roundw;(case rel=>exact⟨i+1,T2,wU,wh,wV,by omega,by go_num,Aa HR⟩);case measure=>simp[intOf];omega}
  ·have cu:decide (i<xs.length)=false:=by simpa using hlt
   have kq:i=xs.length:=by omega
   have fe:GrS (Sd T xs.length) w wr:=by rw[<-kq];exact aZ
   have di:∀k,k<w.heap.size->(∀j,j<xs.length->T k≠13+3*(j+1))->T1 k=T k:=by rw[<-kq];exact fY
   have qP:mQ.length=us.length+4*xs.length:=by rw[<-kq];exact hu1
   have iK:T1 W=1:=by rw[di W j0 (λj hj=>by omega)];exact si
   have hV1:Q0Q T1 13 52 2 ftenc (.slice bA xs.length aN) xs wr:=(Aa HH).row.keep2 fe (λk hk=>Y2 hk) (λk hk hk2=>by rw[di k hk (λj hj=>by omega)];exact hk2);have hE1:Q2E 5 8 43 52 T1 xv kx fs wr:=by obtain⟨e1,e2,e3⟩:=Aa HE;refine⟨e1.keep2 fe (λk hk=>Gy hk (by decide)) (λk hk hk2=>by rw[di k hk (λj hj=>by omega)];exact hk2),e2.keep2 fe (λk hk=>Gy hk (by decide)) (λk hk hk2=>by rw[di k hk (λj hj=>by omega)];exact hk2),λp hp=>?_⟩;obtain⟨n,hn⟩:=e3 p hp;exact⟨n,hn.keep2 fe (λk hk=>Gy hk (by decide)) (λk hk hk2=>by rw[di k hk (λj hj=>by omega)];exact hk2)⟩
   have ud:=Ac qP;have eu:=Ac fe;have lQ:=Ac di;have et:=Ac b7;clear hu1 aZ fY kq fe di qP b7 HH HE HN HW hlt hi si;obtain⟨wo,rfl⟩:∃wo:World,wo=wr:=⟨_,rfl⟩
   obtain⟨rp,nY,rj⟩:=hE1;obtain⟨iP,cJ,sW⟩:=nY.1.slice;rw[AY]at sW;have cK:wo.cell? ⟨W,6,none⟩=some (.slice iP fs.length cJ):=by rw[hW1.cell 6,sW];rfl
   obtain⟨m,hm⟩:∃m:Int,m=-1-(fs.length:Int):=⟨_,rfl⟩
   have kg:=hV1.1.own;have PT:W<wo.heap.size:=Ad hW1;have bZ:=Aa lZ;have HV:=Ac hV1;have iT:=Ac rp;have jt:=Ac nY;have yr:=Ac rj;have HW:=Ac hW1;have SB:=Ac sW;have HM:=Ac hm;have lY:=Ac kg;clear hV1 rp nY rj hW1 sW hm kg;go_wp2;rw[<-Aa HM];clear bZ cK;have kE:=AA wo (.cells #[.int .i64 m,.slice none 0 0] 52) none;have QF:C2 52 wo.heap.size (.int .i64 m) (.slice none 0 0) (wo.alloc (.cells #[.int .i64 m,.slice none 0 0] 52)):=AR _ _;go_loopw [7] (λz w'=>∃i2:Nat,i2<=xs.length/\z=.int .i64 i2/\GrS (λk=>T1 k=13) wo w'/\Q0B 52 2 ftenc 0 (.slice bA xs.length aN) (List.replicate i2 (⟨m,.slice none 0 0,[]⟩:VFt)++xs.drop i2) w'/\C2 52 wo.heap.size (.int .i64 m) (.slice none 0 0) w'/\wo.heap.size+1<=w'.heap.size) (λz _=>xs.length-(intOf z).toNat);case atStart=>exact⟨0,AG _,rfl,GrS.of kE (by simp),by simpa using(Aa HV).1.gr kE,QF,by simp⟩
   case round=>
    clear kE QF;obtain⟨i2,pn,rfl,hG,hR,hF,tP⟩:=hrel;obtain⟨f0,f1⟩:=hF.c;by_cases hlt2:i2<xs.length;{(have xo:decide (i2<xs.length)=true:=by simpa using hlt2);(obtain⟨x,hx⟩:∃x,(List.replicate i2 (⟨m,.slice none 0 0,[]⟩:VFt)++xs.drop i2)[i2]?=some x:=⟨_,AB (by simp;omega)⟩);obtain⟨g,cp,eZ,hcs⟩:=hR.cells hx;simp only[AH]at eZ;obtain⟨rfl,hzz,rfl⟩:=eZ;clear hzz;have x0:wr.cell? ⟨g,i2*2,none⟩=some (.int .i64 x.kind):=hcs 0 (by omega);have x1:wr.cell? ⟨g,i2*2+1,none⟩=some x.v:=hcs 1 (by omega);have z0:=hR.fz (i2*2);have z1:=hR.fz (i2*2+1);have vq:T1 g=13:=(Aa HV).2 g rfl;have ig:g<wo.heap.size:=(Aa lY g rfl).2;have hR2:=FtsAt.stored hR i2 ⟨m,.slice none 0 0,[]⟩ (by simp;omega);rw[S1 _ xs i2 hlt2]at hR2;have aX:=Se wr g (i2*2) (i2*2+1) (.int .i64 m) (.slice none 0 0);have bI:=hG.then aX (λk hk=>by simp at hk;subst hk;exact .inr vq);have hF2:=hF.kept aX (by simp;omega);have cO:=Ac hR2;have ui:=Ac bI;have HF2:=Ac hF2;have wk:=AU tP aX.size;clear hcs hx hR hG vq hR2 bI hF2 aX hF;go_wp2;go_roundw;(case rel=>exact⟨i2+1,by omega,by go_num,Aa ui,Aa cO,Aa HF2,wk⟩);case measure=>simp[intOf];omega}
    ·have xo:decide (i2<xs.length)=false:=by simpa using hlt2
     have e1:List.replicate i2 (⟨m,.slice none 0 0,[]⟩:VFt)++xs.drop i2=List.replicate xs.length (⟨m,.slice none 0 0,[]⟩:VFt):=by rw[BD (by omega),BM];congr 1;omega
     rw[e1]at hR;clear e1 hlt2 pn;generalize kX:xs.length=n at *;have a7:=AA wr (.cells #[.int .i64 m,.slice none 0 0] 52) none;have hs1:Q0B 52 2 ftenc 0 (.slice (some ⟨wr.heap.size,0,none⟩) 1 1) (List.replicate 1 (⟨m,.slice none 0 0,[]⟩:VFt)) (wr.alloc (.cells #[.int .i64 m,.slice none 0 0] 52)):=(Q0B.litn Cx wr (List.replicate 1 (⟨m,.slice none 0 0,[]⟩:VFt)) #[.int .i64 m,.slice none 0 0] rfl (by simp[maxLen])).weak (AG _);have lB:=hR.gr a7;go_wp2_with (at_builtin;refine Cg rfl _ _ 43 rfl underlying43 Q1I rfl (by decide) rfl lB rfl hs1 (by simp) (λy hy=>Fc y (by rw[DC hy];rfl)) (by unfold maxLen;simp;omega) (by simp;omega) ?_);intro v1 w1 aP eM;obtain⟨g1,aS,rfl⟩:=eM.form;have jB:C2 52 wo.heap.size (.int .i64 m) (.slice none 0 0) w1:=eM.block (hF.kept a7 (by simp)) (λe=>by have:=(Aa lY _ e).2;omega);obtain⟨f10,f11⟩:=jB.c;have eb:Q0B 52 2 ftenc 0 (.slice (some ⟨g1,0,none⟩) (n+1) aS) (List.replicate (n+1) (⟨m,.slice none 0 0,[]⟩:VFt)) w1:=by have:=aP;rw[<-Ez n (⟨m,.slice none 0 0,[]⟩:VFt) 1];exact this
     have eE:∀g,(Value.slice bA n aN).ownBlock=some g->g<(wr.alloc (.cells #[.int .i64 m,.slice none 0 0] 52)).heap.size:=λg hg=>AV (Aa lY g hg).2 (AU hG.size a7.size);have gB:=eM.kin eE;have hR1:Q0B 52 2 ftenc 0 (.slice bA n aN) (List.replicate (n+0) (⟨m,.slice none 0 0,[]⟩:VFt)) w1:=Kin.keepG (v:=.slice bA n aN) (v1:=.slice bA n aN) (j:=0) (Fe _ _ hR) lB eb eM (AG _);have oW:=(hG.then a7 (by simp)).trans (eM.gr (λg hg=>(Aa HV).2 g hg));have hown1:=eM.own;have sB:wo.heap.size<=(wr.alloc (.cells #[.int .i64 m,.slice none 0 0] 52)).heap.size:=AU hG.size a7.size;have aO:=AA w1 (.cells #[.int .i64 m,.slice none 0 0,.int .i64 m,.slice none 0 0] 52) none;have hs2:Q0B 52 2 ftenc 0 (.slice (some ⟨w1.heap.size,0,none⟩) 2 2) (List.replicate 2 (⟨m,.slice none 0 0,[]⟩:VFt)) (w1.alloc (.cells #[.int .i64 m,.slice none 0 0,.int .i64 m,.slice none 0 0] 52)):=(Q0B.litn Cx w1 (List.replicate 2 (⟨m,.slice none 0 0,[]⟩:VFt)) #[.int .i64 m,.slice none 0 0,.int .i64 m,.slice none 0 0] rfl (by simp[maxLen])).weak (AG _);have jL:=hR1.gr aO;have lj:=eb.gr aO;have sJ:=Ac gB;have lW:=Ac hown1;clear a7 hs1 lB aP eM hR1 hR hG eE gB hown1 eb;go_wp2_with (at_builtin;refine Cg rfl _ _ 43 rfl underlying43 Q1I rfl (by decide) rfl jL rfl hs2 (by simp) (λy hy=>Fc y (by rw[DC hy];rfl)) (by unfold maxLen;simp;omega) (by simp;omega) ?_);intro v2 w2 hv2 hl2;obtain⟨g2,cap2,rfl⟩:=hl2.form;have hF2:C2 52 wo.heap.size (.int .i64 m) (.slice none 0 0) w2:=hl2.block (jB.kept aO (by simp)) (λe=>by have:=(Aa lY _ e).2;omega);obtain⟨f20,f21⟩:=hF2.c;have fG:Q0B 52 2 ftenc 0 (.slice (some ⟨g2,0,none⟩) (n+2) cap2) (List.replicate (n+2) (⟨m,.slice none 0 0,[]⟩:VFt)) w2:=by have:=hv2;rw[<-Ez n (⟨m,.slice none 0 0,[]⟩:VFt) 2];exact this
     have eE:∀g,(Value.slice bA n aN).ownBlock=some g->g<(w1.alloc (.cells #[.int .i64 m,.slice none 0 0,.int .i64 m,.slice none 0 0] 52)).heap.size:=λg hg=>AV (Aa lY g hg).2 (AU oW.size aO.size);have gA:=hl2.kin eE;have hR2:Q0B 52 2 ftenc 0 (.slice bA n aN) (List.replicate (n+0) (⟨m,.slice none 0 0,[]⟩:VFt)) w2:=Kin.keepG (v:=.slice bA n aN) (v1:=.slice bA n aN) (j:=0) (Fe _ _ jL) jL fG hl2 (AG _);have kN:=Kin.keepG (Aa sJ) lj fG hl2 (by omega);have rh:=(oW.then aO (by simp)).trans (hl2.gr (λg hg=>(Aa HV).2 g hg));have hown2:=hl2.own;have sA:wo.heap.size<=(w1.alloc (.cells #[.int .i64 m,.slice none 0 0,.int .i64 m,.slice none 0 0] 52)).heap.size:=AU oW.size aO.size;have bX:=AA w2 (.cells #[.int .i64 m,.slice none 0 0,.int .i64 m,.slice none 0 0,.int .i64 m,.slice none 0 0] 52) none;have hs3:Q0B 52 2 ftenc 0 (.slice (some ⟨w2.heap.size,0,none⟩) 3 3) (List.replicate 3 (⟨m,.slice none 0 0,[]⟩:VFt)) (w2.alloc (.cells #[.int .i64 m,.slice none 0 0,.int .i64 m,.slice none 0 0,.int .i64 m,.slice none 0 0] 52)):=(Q0B.litn Cx w2 (List.replicate 3 (⟨m,.slice none 0 0,[]⟩:VFt)) #[.int .i64 m,.slice none 0 0,.int .i64 m,.slice none 0 0,.int .i64 m,.slice none 0 0] rfl (by simp[maxLen])).weak (AG _);have jm:=hR2.gr bX;have kM:=kN.gr bX;have kL:=fG.gr bX;have kI:=Ac gA;have lV:=Ac hown2;clear aO hs2 jL lj hv2 hl2 hR2 kN oW eE gA hown2 fG;go_wp2_with (at_builtin;refine Cg rfl _ _ 43 rfl underlying43 Q1I rfl (by decide) rfl jm rfl hs3 (by simp) (λy hy=>Fc y (by rw[DC hy];rfl)) (by unfold maxLen;simp;omega) (by simp;omega) ?_);intro v3 w3 hv3 hl3;obtain⟨g3,b8,rfl⟩:=hl3.form;have bV:Q0B 52 2 ftenc 0 (.slice (some ⟨g3,0,none⟩) (n+3) b8) (List.replicate (n+3) (⟨m,.slice none 0 0,[]⟩:VFt)) w3:=by have:=hv3;rw[<-Ez n (⟨m,.slice none 0 0,[]⟩:VFt) 3];exact this
     have dm:Q0B 52 2 ftenc 0 (.slice bA n aN) (List.replicate (n+0) (⟨m,.slice none 0 0,[]⟩:VFt)) w3:=Kin.keepG (v:=.slice bA n aN) (v1:=.slice bA n aN) (j:=0) (Fe _ _ jm) jm bV hl3 (AG _);have gu:=Kin.keepG (Aa sJ) kM bV hl3 (by omega);have gq:=Kin.keepG (Aa kI) kL bV hl3 (by omega);have jM:=(rh.then bX (by simp)).trans (hl3.gr (λg hg=>(Aa HV).2 g hg));have fu:=hl3.own;have jo:=jM.size;have gI:=rh.size;have ho:∀v':Value,(v'=.slice bA n aN\/v'=.slice (some ⟨g1,0,none⟩) (n+1) aS\/v'=.slice (some ⟨g2,0,none⟩) (n+2) cap2\/v'=.slice (some ⟨g3,0,none⟩) (n+3) b8)->∀g,v'.ownBlock=some g->(g<wo.heap.size/\T1 g=13)\/wo.heap.size<=g:=by have hV:∀g,(Value.slice bA n aN).ownBlock=some g->(g<wo.heap.size/\T1 g=13)\/wo.heap.size<=g:=λg hg=>.inl ⟨(Aa lY g hg).2,(Aa HV).2 g hg⟩;rintro v' (rfl|rfl|rfl|rfl) g hg;{exact hV g hg};{rcases Aa lW g hg with h|h;{exact hV g h};{exact .inr (AU sB h)}};{rcases Aa lV g hg with h|h;{exact hV g h};{exact .inr (AU sA h)}};{rcases fu g hg with h|h;{exact hV g h};{exact .inr (AU (AU gI bX.size) h)}}
     have HO:=Ac ho;have gy:=jM.row (Aa iT).1 (λg hg=>by have:=(Aa iT).2 g hg;omega);have kj:=jM.row (Aa jt).1 (λg hg=>by have:=(Aa jt).2 g hg;omega);have hW3:=(Aa HW).grs jM (by omega);clear bX hs3 jm kM kL hv3 hl3 fu ho rh gI lW lV sJ kI;have zq:=Ac kX;clear kX;obtain⟨jQ,dJ,rfl⟩:=gy.slice;obtain⟨L4,hL4⟩:∃L4:List (Value×Int),L4=[(.slice bA n aN,m),(.slice (some ⟨g1,0,none⟩) (n+1) aS,m),(.slice (some ⟨g2,0,none⟩) (n+2) cap2,m),(.slice (some ⟨g3,0,none⟩) (n+3) b8,m)]:=⟨_,rfl⟩
     have cG:L4.length=4:=by rw[hL4];rfl
     have dO:=AA w3 (.cells #[.slice bA n aN,.slice (some ⟨g1,0,none⟩) (n+1) aS,.slice (some ⟨g2,0,none⟩) (n+2) cap2,.slice (some ⟨g3,0,none⟩) (n+3) b8] 43) none;have jV:Q0B 43 1 (λp:Value×Int=>[p.1]) 0 (.slice (some ⟨w3.heap.size,0,none⟩) 4 4) L4 (w3.alloc (.cells #[.slice bA n aN,.slice (some ⟨g1,0,none⟩) (n+1) aS,.slice (some ⟨g2,0,none⟩) (n+2) cap2,.slice (some ⟨g3,0,none⟩) (n+3) b8] 43)):=by have:=(Q0B.litn (e:=43) (size:=1) (enc:=λp:Value×Int=>[p.1]) (λ_=>rfl) w3 L4 #[.slice bA n aN,.slice (some ⟨g1,0,none⟩) (n+1) aS,.slice (some ⟨g2,0,none⟩) (n+2) cap2,.slice (some ⟨g3,0,none⟩) (n+3) b8] (by rw[hL4];rfl) (by rw[cG];decide)).weak (AG _);rw[cG]at this;exact this
     have fw:∀y∈L4,∀c∈[y.1],c.oneCell'=true:=by intro y hy c hc;rw[hL4]at hy;simp only[AZ]at hc;subst hc;simp only[CQ,GG,KC]at hy;rcases hy with rfl|rfl|rfl|rfl<;>rfl
     have rU:=Aa lZ;have hb1:fs.length+L4.length<=maxLen:=by rw[cG];unfold maxLen;omega
     have hb2:(fs.length+L4.length)*24<=140737488355328:=by rw[cG];omega
     have hb3:0<L4.length:=by rw[cG];decide
     have fP:=Ac hb1;have fq:=Ac hb2;have lh:=Ac hb3;have eX:=Ac fw;have RQ:=Ac jV;have kO:=gy.gr dO;have rR:=hW3.gr dO (by simp);have rH:(w3.alloc (.cells #[.slice bA n aN,.slice (some ⟨g1,0,none⟩) (n+1) aS,.slice (some ⟨g2,0,none⟩) (n+2) cap2,.slice (some ⟨g3,0,none⟩) (n+3) b8] 43)).cell? ⟨W,3,none⟩=some (.slice jQ fs.length dJ):=rR.cell 3;have rI:w3.cell? ⟨W,3,none⟩=some (.slice jQ fs.length dJ):=hW3.cell 3;have sr:=Ac hL4;have iR:=Ac cG;clear hb1 hb2 hb3 fw jV hL4 cG rU;have uw:(Value.slice jQ fs.length dJ).ownBlock≠some W:=λe=>by have:=(Aa iT).2 W e;omega
     have wN:=Ac uw;clear uw;go_wp2_with (at_builtin;refine Cg rfl _ _ 70 rfl underlying70 Q4V rfl (by decide) rfl kO rfl (Aa RQ) (Aa lh) (Aa eX) (Aa fP) (Aa fq) ?_);intro u5 w5 o9 aK;obtain⟨g5,aG,rfl⟩:=aK.form;rw[Aa iR]at o9 aK;have gC:Q1N W #[nv,jS,ov,.slice jQ fs.length dJ,jT,ko,kx,lv] w5:=aK.block rR (Aa wN);have yT:w5.cell? ⟨W,3,none⟩=some (.slice jQ fs.length dJ):=gC.cell 3;have z51:=gC.fz 3;have iL:∀g,(Value.slice jQ fs.length dJ).ownBlock=some g->g<wo.heap.size/\T1 g=5:=λg hg=>⟨((Aa iT).1.own g hg).2,(Aa iT).2 g hg⟩
     have eR:∀g,kx.ownBlock=some g->g<wo.heap.size/\T1 g=8:=λg hg=>⟨((Aa jt).1.own g hg).2,(Aa jt).2 g hg⟩
     have aX:=Aj w5 W 3 (.slice (some ⟨g5,0,none⟩) (fs.length+4) aG);have j0:W<wo.heap.size:=Ad (Aa HW);have b9:∀(v':Value) (k:Nat),(v'=.slice bA n aN\/v'=.slice (some ⟨g1,0,none⟩) (n+1) aS\/v'=.slice (some ⟨g2,0,none⟩) (n+2) cap2\/v'=.slice (some ⟨g3,0,none⟩) (n+3) b8)->Q0B 52 2 ftenc 0 v' (List.replicate k (⟨m,.slice none 0 0,[]⟩:VFt)) w3->Q0B 52 2 ftenc 0 v' (List.replicate k (⟨m,.slice none 0 0,[]⟩:VFt)) (w5.setCell ⟨W,3,none⟩ (.slice (some ⟨g5,0,none⟩) (fs.length+4) aG)):=by intro v' k hv' h;have h1:=aK.keepRow (h.gr dO) (λg hg e=>by have h2:=iL g e;rcases Aa HO v' hv' g hg with h3|h3<;>omega);refine h1.other aX (λg hg e=>?_);simp only[AE]at e;subst e;rcases Aa HO v' hv' W hg with h3|h3<;>omega
     have hw0:=b9 _ _ (.inl rfl) dm;have hw1:=b9 _ _ (.inr (.inl rfl)) gu;have hw2:=b9 _ _ (.inr (.inr (.inl rfl))) gq;have hw3:=b9 _ _ (.inr (.inr (.inr rfl))) bV;have qw:Q0B 3 1 C8 0 kx (fs.map Prod.snd) (w5.setCell ⟨W,3,none⟩ (.slice (some ⟨g5,0,none⟩) (fs.length+4) aG)):=by have h1:=aK.keepRow (kj.gr dO) (λg hg e=>by have h2:=iL g e;have h3:=eR g hg;omega);refine h1.other aX (λg hg e=>?_);simp only[AE]at e;subst e;have h3:=eR W hg;omega
     have qN:Q0B 43 1 (λp:Value×Int=>[p.1]) 0 (.slice (some ⟨g5,0,none⟩) (fs.length+4) aG) (fs++L4) (w5.setCell ⟨W,3,none⟩ (.slice (some ⟨g5,0,none⟩) (fs.length+4) aG)):=by refine o9.other aX (λg hg e=>?_);simp only[AE]at e;subst e;rcases aK.own W hg with h2|h2;{exact Aa wN h2};{have h4:=dO.size;omega}
     have oP:Q1N W #[nv,jS,ov,.slice (some ⟨g5,0,none⟩) (fs.length+4) aG,jT,ko,kx,lv] (w5.setCell ⟨W,3,none⟩ (.slice (some ⟨g5,0,none⟩) (fs.length+4) aG)):=gC.set 3 _;have bM:g5<w3.heap.size+1->T1 g5=5/\g5<wo.heap.size:=by intro hlt;rcases aK.own g5 rfl with h2|h2;{exact⟨(iL g5 h2).2,(iL g5 h2).1⟩};{simp at h2;omega}
     have dX:GrS (λk=>T1 k=1\/T1 k=5\/T1 k=8\/T1 k=13) wo (w5.setCell ⟨W,3,none⟩ (.slice (some ⟨g5,0,none⟩) (fs.length+4) aG)):=by have h1:GrS (λk=>T1 k=1\/T1 k=5\/T1 k=8\/T1 k=13) wo w3:=jM.mono (λk hk=>.inr (.inr (.inr hk)));have h2:=(h1.then dO (by simp)).trans (aK.gr (λg hg=>.inr (.inl (iL g hg).2)));exact h2.then aX (λg hg=>by simp only[AE]at hg;subst hg;exact .inr (.inl iK))
     obtain⟨w6,iX⟩:∃w6,w5.setCell ⟨W,3,none⟩ (.slice (some ⟨g5,0,none⟩) (fs.length+4) aG)=w6:=⟨_,rfl⟩
     have MG:w5.heap.size=w6.heap.size:=by rw[<-iX];simp[World.setCell]
     have MH:w3.heap.size+1<=w5.heap.size:=by have h1:GrS (λk=>T1 k=5) (w3.alloc (.cells #[.slice bA n aN,.slice (some ⟨g1,0,none⟩) (n+1) aS,.slice (some ⟨g2,0,none⟩) (n+2) cap2,.slice (some ⟨g3,0,none⟩) (n+3) b8] 43)) w5:=aK.gr (λg hg=>(iL g hg).2);have h2:=h1.size;simp at h2;omega
     have NG:g5<w5.heap.size:=(o9.own g5 rfl).2;have hlt3:∀(v':Value) (k:Nat),Q0B 52 2 ftenc 0 v' (List.replicate k (⟨m,.slice none 0 0,[]⟩:VFt)) w3->∀g,v'.ownBlock=some g->g<w3.heap.size:=λv' k h g hg=>(h.own g hg).2;have q0:=hlt3 _ _ dm;have q1:=hlt3 _ _ gu;have q2:=hlt3 _ _ gq;have q3:=hlt3 _ _ bV;rw[iX]at hw0 hw1 hw2 hw3 qw qN oP dX;have hk0:=Aa SB;subst hk0;have jJ:=Ah (AA w6 (.cells #[.int .i64 m,.int .i64 m,.int .i64 m,.int .i64 m] 3) none);have qb:Q0L 0 (.slice (some ⟨w6.heap.size,0,none⟩) 4 4) (List.replicate 4 m) (w6.alloc (.cells #[.int .i64 m,.int .i64 m,.int .i64 m,.int .i64 m] 3)).drew:=((Q0B.litn Av w6 (List.replicate 4 m) #[.int .i64 m,.int .i64 m,.int .i64 m,.int .i64 m] rfl (by simp[maxLen])).weak (AG _)).heap rfl;have RA:w6.cell? ⟨W,6,none⟩=some (.slice iP fs.length cJ):=oP.cell 6;have QZ:(w6.alloc (.cells #[.int .i64 m,.int .i64 m,.int .i64 m,.int .i64 m] 3)).cell? ⟨W,6,none⟩=some (.slice iP fs.length cJ):=(AA w6 _ none).cell RA (by simp);obtain⟨WX,oO⟩:∃WX,(w6.alloc (.cells #[.int .i64 m,.int .i64 m,.int .i64 m,.int .i64 m] 3)).drew=WX:=⟨_,rfl⟩
     have MF:WX.heap.size=w6.heap.size+1:=by rw[<-oO];simp[World.drew]
     rw[oO]at jJ qb;have vS:=qw.gr jJ;have wD:(Value.slice iP fs.length cJ).ownBlock≠some W:=λe=>by have:=eR W e;omega
     have iM:∀g7 au w7,Q0B 3 1 C8 0 (.slice (some ⟨g7,0,none⟩) (fs.length+4) au) (fs.map Prod.snd++List.replicate 4 m) w7->Q0O (.slice iP fs.length cJ) (.slice (some ⟨g7,0,none⟩) (fs.length+4) au) fs.length 4 WX w7->w7.cell? ⟨W,6,none⟩=some (.slice iP fs.length cJ)/\w7.frozen? ⟨W,6,none⟩=false/\Gv T W nv ov ko lv us fs n w (.returned (.tuple #[])) (w7.setCell ⟨W,6,none⟩ (.slice (some ⟨g7,0,none⟩) (fs.length+4) au)):=by intro g7 au w7 iY bP;have rS:Q1N W #[nv,jS,ov,.slice (some ⟨g5,0,none⟩) (fs.length+4) aG,jT,ko,.slice iP fs.length cJ,lv] w7:=bP.block (oP.gr jJ (by simp)) wD;have iE:=Aj w7 W 6 (.slice (some ⟨g7,0,none⟩) (fs.length+4) au);have jN:=((dX.then jJ (by simp)).trans (bP.gr (λg hg=>.inr (.inr (.inl (eR g hg).2))))).then iE (λg hg=>by simp only[AE]at hg;subst hg;exact .inr (.inl iK));(have cq:g7<w6.heap.size+1->T1 g7=8/\g7<wo.heap.size:=by intro hlt;rcases bP.own g7 rfl with h2|h2;{exact⟨(eR g7 h2).2,(eR g7 h2).1⟩};{omega});(have bz:∀ {α:Type} {e:TypeId} {size:Nat} {enc:α->List Value} (x:Value) (y:List α),Q0B e size enc 0 x y w6->(∀g,x.ownBlock=some g->(g<wo.heap.size/\T1 g≠8/\T1 g≠1)\/wo.heap.size<=g)->Q0B e size enc 0 x y (w7.setCell ⟨W,6,none⟩ (.slice (some ⟨g7,0,none⟩) (fs.length+4) au)):=by intro α e size enc x y h hx;have h1:=bP.keepRow (h.gr jJ) (λg hg e=>by have h2:=eR g e;rcases hx g hg with h3|h3<;>omega);refine h1.other iE (λg hg e=>?_);simp only[AE]at e;subst e;rcases hx W hg with h3|h3<;>omega);(have pL:L4.map Prod.snd=List.replicate 4 m:=by rw[Aa sr];rfl);(obtain⟨T',bH⟩:∃T':Nat->Nat,∀k,T' k=if k<wo.heap.size then (if T1 k=13 then 10 else T1 k)else if k=g5 then 5 else if k=g7 then 8 else 10:=⟨_,λ_=>rfl⟩);(have dG:∀k,k<wo.heap.size->T1 k≠13->T' k=T1 k:=λk h1 h2=>by rw[bH,AQ h1,AO h2]);(have ZU:Q1P T' jS jT mQ (w7.setCell ⟨W,6,none⟩ (.slice (some ⟨g7,0,none⟩) (fs.length+4) au)):=by obtain⟨a1,a2,a3⟩:=Aa et;refine⟨a1.keep2 jN (λk hk=>by omega) (λk hk hk2=>by rw[dG k hk (by omega)];exact hk2),a2.keep2 jN (λk hk=>by omega) (λk hk hk2=>by rw[dG k hk (by omega)];exact hk2),λp hp=>?_⟩;obtain⟨j,hj⟩:=a3 p hp;exact⟨j,hj.keep2 jN (λk hk=>by omega) (λk hk hk2=>by rw[dG k hk (by omega)];exact hk2)⟩);(have nU:GrS (λk=>T k=1\/T k=3\/T k=6\/T k=5\/T k=8\/InH (T k)) w (w7.setCell ⟨W,6,none⟩ (.slice (some ⟨g7,0,none⟩) (fs.length+4) au)):=by refine((Aa eu).mono (λk hk=>?_)).comp jN (λk hk hn=>?_);{rcases hk with h|h|h|⟨j,_,h⟩;{exact .inl h};{exact .inr (.inl h)};{exact .inr (.inr (.inl h))};{exact .inr (.inr (.inr (.inr (.inr ⟨by omega,by omega⟩))))}};{have hI:¬ InH (T k):=λh=>hn (.inr (.inr (.inr (.inr (.inr h)))));have h1:=Aa lQ k hk (λj hj e=>hI ⟨by omega,by omega⟩);rw[h1];rintro(h|h|h|h);{exact hn (.inl h)};{exact hn (.inr (.inr (.inr (.inl h))))};{exact hn (.inr (.inr (.inr (.inr (.inl h)))))};{exact hI ⟨by omega,by omega⟩}});(have zW:∀k,k<w.heap.size->¬ InH (T k)->T' k=T k:=by intro k hk hI;have h1:=Aa lQ k hk (λj hj e=>hI ⟨by omega,by omega⟩);rw[dG k (AV hk (Aa eu).size) (by rw[h1];intro e;exact hI ⟨by omega,by omega⟩),h1]);refine⟨rS.cell 6,rS.fz 6,rfl,T',jS,jT,mQ,.slice (some ⟨g5,0,none⟩) (fs.length+4) aG,.slice (some ⟨g7,0,none⟩) (fs.length+4) au,fs++L4,rS.set 6 _,ZU,⟨⟨?_,?_⟩,⟨?_,?_⟩,?_⟩,Aa ud,by rw[AL,Aa iR],nU,zW⟩;{refine bz _ _ qN (λg hg=>?_);simp only[Value.ownBlock,AE]at hg;subst hg;by_cases hlt:g5<wo.heap.size;{have:=bM (by omega);exact .inl ⟨hlt,by omega,by omega⟩};{exact .inr (by omega)}};{intro g hg;simp only[Value.ownBlock,AE]at hg;subst hg;by_cases hlt:g5<wo.heap.size;{have:=bM (by omega);rw[dG g5 hlt (by omega)];exact this.1};{rw[bH,AO hlt,AQ rfl]}};{rw[BZ,pL];refine iY.other iE (λg hg e=>?_);simp only[Value.ownBlock,AE]at hg e;subst hg;subst e;have:=cq (by omega);omega};{intro g hg;simp only[Value.ownBlock,AE]at hg;subst hg;by_cases hlt:g7<wo.heap.size;{have:=cq (by omega);rw[dG g7 hlt (by omega)];exact this.1};{(have hne:g7≠g5:=by intro e;have:=cq (by omega);omega);rw[bH,AO hlt,AO hne,AQ rfl]}};{(have hnew:∀(v':Value) (k:Nat),(v'=.slice bA n aN\/v'=.slice (some ⟨g1,0,none⟩) (n+1) aS\/v'=.slice (some ⟨g2,0,none⟩) (n+2) cap2\/v'=.slice (some ⟨g3,0,none⟩) (n+3) b8)->Q0B 52 2 ftenc 0 v' (List.replicate k (⟨m,.slice none 0 0,[]⟩:VFt)) w6->(∀g,v'.ownBlock=some g->g<w3.heap.size)->∃j,Q0Q T' 10 52 2 ftenc v' (List.replicate j (⟨m,.slice none 0 0,[]⟩:VFt)) (w7.setCell ⟨W,6,none⟩ (.slice (some ⟨g7,0,none⟩) (fs.length+4) au)):=by intro v' k hv' h hlt;refine⟨k,bz v' _ h (λg hg=>?_),λg hg=>?_⟩;{rcases Aa HO v' hv' g hg with h3|h3;{exact .inl ⟨h3.1,by omega,by omega⟩};{exact .inr h3}};{rcases Aa HO v' hv' g hg with h3|h3;{rw[bH,AQ h3.1,AQ h3.2]};{have hl:=hlt g hg;(have MW:g≠g5:=by intro e;have:=bM (by omega);omega);(have kY:g≠g7:=by intro e;have:=cq (by omega);omega);rw[bH,AO (by omega),AO MW,AO kY]}});intro p hp;rcases BA.1 hp with hp|hp;{obtain⟨j,hj⟩:=Aa yr p hp;exact⟨j,hj.keep2 jN (λk hk=>by omega) (λk hk hk2=>by rw[dG k hk (by omega)];exact hk2)⟩};{rw[Aa sr]at hp;simp only[CQ,GG,KC]at hp;rcases hp with rfl|rfl|rfl|rfl;{exact hnew _ _ (.inl rfl) hw0 q0};{exact hnew _ _ (.inr (.inl rfl)) hw1 q1};{exact hnew _ _ (.inr (.inr (.inl rfl))) hw2 q2};{exact hnew _ _ (.inr (.inr (.inr rfl))) hw3 q3}}}
     have js:=Ac iM;have SA:=Ac vS;have RO:=Ac qb;have RF:=Ac oO;have RG:=Ac iX;have rU:=Aa lZ;have hb1:(fs.map Prod.snd).length+(List.replicate 4 m).length<=maxLen:=by rw[AY,BN];unfold maxLen;omega
     have hb2:((fs.map Prod.snd).length+(List.replicate 4 m).length)*8<=140737488355328:=by rw[AY,BN];omega
     have sO:=Ac hb1;have sN:=Ac hb2;clear iM vS qb oO hb1 hb2 rU qw qN oP dX hw0 hw1 hw2 hw3 b9 hlt3 q0 q1 q2 q3 dm gu gq bV bM iL eR o9 aK gy kO kj dO hW3 rR gC rH rI jM aX jJ wD iX;go_wp2_with fail;rw[Aa iR,Aa RG];go_region_law (rw[Aa RF];refine E4 rfl _ _ 35 rfl underlying35 Q0I rfl (by decide) (by simp[Act.eval]) (Aa SA) (by simp[Act.eval]) (Aa RO) (by simp) (λy _=>Cb y) (Aa sO) (Aa sN) ?_;intro kv w7 iY bP;rw[AY,BN]at bP;obtain⟨g7,au,rfl⟩:=bP.form;obtain⟨f1,f2,f3⟩:=Aa js g7 au w7 iY bP;have F3:=Ac f3;clear f3 iY bP);all_goals go_wp2_with fail;go_end0;have F4:=Aa F3;rw[<-Aa zq]at F4;exact F4
def Q4G(T:Nat->Nat)(lv:Value)(ls:List Value)(w:World):Prop:=
 Q0Q T 9 35 1 (λv:Value=>[v]) lv ls w/\∀v∈ls,∃n,Q0Q T 10 3 1 C8 v (List.replicate n (-99)) w
theorem Ff(T:Nat->Nat)(W:Nat)(nv uv fv mv k0 k1 k2 lv:Value)(us fs ms:List (Value×Int))(ls:List Value)(w:World) (hW:Q1N W #[nv,uv,fv,mv,k0,k1,k2,lv] w)(hN:Q1P T uv k0 us w)(hL:Q4G T lv ls w)(hF:Q2E 4 7 47 37 T fv k1 fs w)(hM:Q2E 5 8 43 52 T mv k2 ms w):Calls prog 34 #[.pointer (some ⟨W,0,none⟩)] w λe w'=>e=.returned (.bool true)/\w.grownBy w' none:=by
 obtain⟨aU,cU,rfl⟩:=hN.1.1.slice;obtain⟨aK0,cK0,hk0⟩:=hN.2.1.1.slice;obtain⟨aL,cL,rfl⟩:=hL.1.1.slice;obtain⟨aF,cF,rfl⟩:=hF.1.1.slice;obtain⟨aK1,cK1,lr⟩:=hF.2.1.1.slice;obtain⟨aM,cM,rfl⟩:=hM.1.1.slice;obtain⟨aK2,cK2,hk2⟩:=hM.2.1.1.slice;rw[AY]at hk0 lr hk2;subst hk0 lr hk2;have lU:=hN.1.1.le;have lL:=hL.1.1.le;have lF:=hF.1.1.le;have lM:=hM.1.1.le;unfold maxLen at lU lL lF lM;have c1:w.cell? ⟨W,1,none⟩=some (.slice aU us.length cU):=hW.cell 1;have c2:w.cell? ⟨W,2,none⟩=some (.slice aF fs.length cF):=hW.cell 2;have c3:w.cell? ⟨W,3,none⟩=some (.slice aM ms.length cM):=hW.cell 3;have c4:w.cell? ⟨W,4,none⟩=some (.slice aK0 us.length cK0):=hW.cell 4;have c5:w.cell? ⟨W,5,none⟩=some (.slice aK1 fs.length cK1):=hW.cell 5;have c6:w.cell? ⟨W,6,none⟩=some (.slice aK2 ms.length cK2):=hW.cell 6;have c7:w.cell? ⟨W,7,none⟩=some (.slice aL ls.length cL):=hW.cell 7;have HN:=Ac hN;have HL:=Ac hL;have HF:=Ac hF;have HM:=Ac hM;clear hN hL hF hM hW;go_enter func34,ntmps34;go_wp2;go_loopw [3] (λx w'=>∃i:Nat,i<=us.length/\x=.int .i64 i/\w.grownBy w' none) (λx _=>us.length-(intOf x).toNat);case atStart=>exact⟨0,AG _,rfl,AD _ _⟩
 case round=>obtain⟨i,hi,rfl,hg⟩:=hrel;have d1:=hg.cell c1 (by simp);have d4:=hg.cell c4 (by simp);by_cases hlt:i<us.length;{(have cu:decide (i<us.length)=true:=by simpa using hlt);(obtain⟨p,hp⟩:∃p,us[i]?=some p:=⟨us[i],AB hlt⟩);(obtain⟨g,cp,hv,hcs⟩:=((Aa HN).1.1.gr hg).cells hp;simp only[AH,BP]at hv;obtain⟨rfl,rfl⟩:=hv;have vD:(us.map Prod.snd)[i]?=some p.2:=by rw[BR,hp];rfl);(obtain⟨gk,ck,ur,hck⟩:=((Aa HN).2.1.1.gr hg).cells vD;simp only[AH]at ur;obtain⟨rfl,hzz,rfl⟩:=ur;clear hzz;have x0:wr.cell? ⟨g,i,none⟩=some p.1:=by have:=hcs 0 (by omega);simpa using this);(have y0:wr.cell? ⟨gk,i,none⟩=some (.int .i64 p.2):=by have:=hck 0 (by omega);simpa[C8]using this);(obtain⟨n,hn,_⟩:=(Aa HN).2.2 p (AW hp);have ln:=hn.le;rw[BN]at ln;unfold maxLen at ln;obtain⟨ap,cpp,ir⟩:=hn.slice;rw[BN]at ir;rw[ir]at x0;have yh:=Ac hn;have ye:=Ac ir;clear hcs hck hp vD hn ir;obtain⟨wo,rfl⟩:∃wo:World,wo=wr:=⟨_,rfl⟩);go_wp2;go_loopw [4] (λz w'=>∃k:Nat,k<=n/\z=.int .i64 k/\wo.grownBy w' none) (λz _=>n-(intOf z).toNat);(case atStart=>exact⟨0,AG _,rfl,AD _ _⟩);case round=>obtain⟨k,hk,rfl,hg2⟩:=hrel;have e1:=hg2.cell d1 (by simp);have e4:=hg2.cell d4 (by simp);have ex0:=hg2.cell x0 (by simp);have ey0:=hg2.cell y0 (by simp);by_cases hlt2:k<n;{(have ix:decide (k<n)=true:=by simpa using hlt2);(have mz:(List.replicate n p.2)[k]?=some p.2:=by rw[FT,AQ hlt2]);(obtain⟨gp,cp3,hv3,hc3⟩:=((Aa yh).gr (Ab hg hg2)).cells mz;rw[Aa ye]at hv3;simp only[AH]at hv3;obtain⟨rfl,hzz,rfl⟩:=hv3;clear hzz;have ez0:wr.cell? ⟨gp,k,none⟩=some (.int .i64 p.2):=by have:=hc3 0 (by omega);simpa[C8]using this);(have ku:(p.2 !=p.2)=false:=by simp);clear hc3 mz;go_wp2;go_quiet (fail);go_wp2;go_roundw;(case rel=>exact⟨k+1,by omega,by go_num,Ab hg2 (Af _ _ _)⟩);case measure=>simp[intOf];omega};{(have ix:decide (k<n)=false:=by simpa using hlt2);go_wp2;go_roundw;(case rel=>exact⟨i+1,by omega,by go_num,Ab hg hg2⟩);case measure=>simp[intOf];omega}};{(have cu:decide (i<us.length)=false:=by simpa using hlt);(obtain⟨wa,rfl⟩:∃wa:World,wa=wr:=⟨_,rfl⟩);go_wp2;go_loopw [5] (λx w'=>∃i:Nat,i<=ls.length/\x=.int .i64 i/\w.grownBy w' none) (λx _=>ls.length-(intOf x).toNat);(case atStart=>exact⟨0,AG _,rfl,hg⟩);case round=>clear d1 d4 hg hlt cu;obtain⟨i,hi,rfl,hg⟩:=hrel;have d7:=hg.cell c7 (by simp);by_cases hlt:i<ls.length;{(have cu:decide (i<ls.length)=true:=by simpa using hlt);(obtain⟨p,hp⟩:∃p,ls[i]?=some p:=⟨ls[i],AB hlt⟩);(obtain⟨g,cp,hv,hcs⟩:=((Aa HL).1.1.gr hg).cells hp;simp only[AH,BP]at hv;obtain⟨rfl,rfl⟩:=hv;have x0:wr.cell? ⟨g,i,none⟩=some p:=by have:=hcs 0 (by omega);simpa using this);(obtain⟨n,hn,_⟩:=(Aa HL).2 p (AW hp);have ln:=hn.le;rw[BN]at ln;unfold maxLen at ln;obtain⟨ap,cpp,ir⟩:=hn.slice;rw[BN]at ir;rw[ir]at x0;have yh:=Ac hn;have ye:=Ac ir;clear hcs hp hn ir;obtain⟨wo,rfl⟩:∃wo:World,wo=wr:=⟨_,rfl⟩);go_wp2;go_loopw [6] (λz w'=>∃k:Nat,k<=n/\z=.int .i64 k/\wo.grownBy w' none) (λz _=>n-(intOf z).toNat);(case atStart=>exact⟨0,AG _,rfl,AD _ _⟩);case round=>obtain⟨k,hk,rfl,hg2⟩:=hrel;have e7:=hg2.cell d7 (by simp);have ex0:=hg2.cell x0 (by simp);by_cases hlt2:k<n;{(have ix:decide (k<n)=true:=by simpa using hlt2);(have mz:(List.replicate n (-99:Int))[k]?=some (-99):=by rw[FT,AQ hlt2]);(obtain⟨gp,cp3,hv3,hc3⟩:=((Aa yh).gr (Ab hg hg2)).cells mz;rw[Aa ye]at hv3;simp only[AH]at hv3;obtain⟨rfl,hzz,rfl⟩:=hv3;clear hzz;have ez0:wr.cell? ⟨gp,k,none⟩=some (.int .i64 (-99)):=by have:=hc3 0 (by omega);simpa[C8]using this);clear hc3 mz;go_wp2;go_roundw;(case rel=>exact⟨k+1,by omega,by go_num,hg2⟩);case measure=>simp[intOf];omega};{(have ix:decide (k<n)=false:=by simpa using hlt2);go_wp2;go_roundw;(case rel=>exact⟨i+1,by omega,by go_num,Ab hg hg2⟩);case measure=>simp[intOf];omega}};{(have cu:decide (i<ls.length)=false:=by simpa using hlt);(obtain⟨wb,rfl⟩:∃wb:World,wb=wr:=⟨_,rfl⟩);go_wp2;go_loopw [7] (λx w'=>∃i:Nat,i<=fs.length/\x=.int .i64 i/\w.grownBy w' none) (λx _=>fs.length-(intOf x).toNat);(case atStart=>exact⟨0,AG _,rfl,hg⟩);case round=>clear d7 hg hlt cu;obtain⟨i,hi,rfl,hg⟩:=hrel;have dA:=hg.cell c2 (by simp);have dB:=hg.cell c5 (by simp);by_cases hlt:i<fs.length;{(have cu:decide (i<fs.length)=true:=by simpa using hlt);(obtain⟨p,hp⟩:∃p,fs[i]?=some p:=⟨fs[i],AB hlt⟩);(obtain⟨g,cp,hv,hcs⟩:=((Aa HF).1.1.gr hg).cells hp;simp only[AH,BP]at hv;obtain⟨rfl,rfl⟩:=hv;have vD:(fs.map Prod.snd)[i]?=some p.2:=by rw[BR,hp];rfl);(obtain⟨gk,ck,ur,hck⟩:=((Aa HF).2.1.1.gr hg).cells vD;simp only[AH]at ur;obtain⟨rfl,hzz,rfl⟩:=ur;clear hzz;have x0:wr.cell? ⟨g,i,none⟩=some p.1:=by have:=hcs 0 (by omega);simpa using this);(have y0:wr.cell? ⟨gk,i,none⟩=some (.int .i64 p.2):=by have:=hck 0 (by omega);simpa[C8]using this);(obtain⟨n,hn,_⟩:=(Aa HF).2.2 p (AW hp);have ln:=hn.le;rw[BN]at ln;unfold maxLen at ln;obtain⟨ap,cpp,ir⟩:=hn.slice;rw[BN]at ir;rw[ir]at x0;have yh:=Ac hn;have ye:=Ac ir;clear hcs hck hp vD hn ir;obtain⟨wo,rfl⟩:∃wo:World,wo=wr:=⟨_,rfl⟩);go_wp2;go_loopw [8] (λz w'=>∃k:Nat,k<=n/\z=.int .i64 k/\wo.grownBy w' none) (λz _=>n-(intOf z).toNat);(case atStart=>exact⟨0,AG _,rfl,AD _ _⟩);case round=>obtain⟨k,hk,rfl,hg2⟩:=hrel;have eA:=hg2.cell dA (by simp);have eB:=hg2.cell dB (by simp);have ex0:=hg2.cell x0 (by simp);have ey0:=hg2.cell y0 (by simp);by_cases hlt2:k<n;{(have ix:decide (k<n)=true:=by simpa using hlt2);(have mz:(List.replicate n (⟨p.2,.slice none 0 0,[]⟩:VFt))[k]?=some ⟨p.2,.slice none 0 0,[]⟩:=by rw[FT,AQ hlt2]);(obtain⟨gp,cp3,hv3,hc3⟩:=((Aa yh).gr (Ab hg hg2)).cells mz;rw[Aa ye]at hv3;simp only[AH]at hv3;obtain⟨rfl,hzz,rfl⟩:=hv3;clear hzz;have ez0:wr.cell? ⟨gp,k*2,none⟩=some (.int .i64 p.2):=hc3 0 (by omega);have ez1:wr.cell? ⟨gp,k*2+1,none⟩=some (.slice none 0 0):=hc3 1 (by omega);have ku:(p.2 !=p.2)=false:=by simp);clear hc3 mz;go_wp2;go_quiet (fail);go_wp2;go_roundw;(case rel=>exact⟨k+1,by omega,by go_num,Ab hg2 (Af _ _ _)⟩);case measure=>simp[intOf];omega};{(have ix:decide (k<n)=false:=by simpa using hlt2);go_wp2;go_roundw;(case rel=>exact⟨i+1,by omega,by go_num,Ab hg hg2⟩);case measure=>simp[intOf];omega}};{(have cu:decide (i<fs.length)=false:=by simpa using hlt);(obtain⟨wc2,rfl⟩:∃wc2:World,wc2=wr:=⟨_,rfl⟩);go_wp2;go_loopw [9] (λx w'=>∃i:Nat,i<=ms.length/\x=.int .i64 i/\w.grownBy w' none) (λx _=>ms.length-(intOf x).toNat);(case atStart=>exact⟨0,AG _,rfl,hg⟩);case round=>clear dA dB hg hlt cu;obtain⟨i,hi,rfl,hg⟩:=hrel;have dA:=hg.cell c3 (by simp);have dB:=hg.cell c6 (by simp);by_cases hlt:i<ms.length;{(have cu:decide (i<ms.length)=true:=by simpa using hlt);(obtain⟨p,hp⟩:∃p,ms[i]?=some p:=⟨ms[i],AB hlt⟩);(obtain⟨g,cp,hv,hcs⟩:=((Aa HM).1.1.gr hg).cells hp;simp only[AH,BP]at hv;obtain⟨rfl,rfl⟩:=hv;have vD:(ms.map Prod.snd)[i]?=some p.2:=by rw[BR,hp];rfl);(obtain⟨gk,ck,ur,hck⟩:=((Aa HM).2.1.1.gr hg).cells vD;simp only[AH]at ur;obtain⟨rfl,hzz,rfl⟩:=ur;clear hzz;have x0:wr.cell? ⟨g,i,none⟩=some p.1:=by have:=hcs 0 (by omega);simpa using this);(have y0:wr.cell? ⟨gk,i,none⟩=some (.int .i64 p.2):=by have:=hck 0 (by omega);simpa[C8]using this);(obtain⟨n,hn,_⟩:=(Aa HM).2.2 p (AW hp);have ln:=hn.le;rw[BN]at ln;unfold maxLen at ln;obtain⟨ap,cpp,ir⟩:=hn.slice;rw[BN]at ir;rw[ir]at x0;have yh:=Ac hn;have ye:=Ac ir;clear hcs hck hp vD hn ir;obtain⟨wo,rfl⟩:∃wo:World,wo=wr:=⟨_,rfl⟩);go_wp2;go_loopw [10] (λz w'=>∃k:Nat,k<=n/\z=.int .i64 k/\wo.grownBy w' none) (λz _=>n-(intOf z).toNat);(case atStart=>exact⟨0,AG _,rfl,AD _ _⟩);case round=>obtain⟨k,hk,rfl,hg2⟩:=hrel;have eA:=hg2.cell dA (by simp);have eB:=hg2.cell dB (by simp);have ex0:=hg2.cell x0 (by simp);have ey0:=hg2.cell y0 (by simp);by_cases hlt2:k<n;{(have ix:decide (k<n)=true:=by simpa using hlt2);(have mz:(List.replicate n (⟨p.2,.slice none 0 0,[]⟩:VFt))[k]?=some ⟨p.2,.slice none 0 0,[]⟩:=by rw[FT,AQ hlt2]);(obtain⟨gp,cp3,hv3,hc3⟩:=((Aa yh).gr (Ab hg hg2)).cells mz;rw[Aa ye]at hv3;simp only[AH]at hv3;obtain⟨rfl,hzz,rfl⟩:=hv3;clear hzz;have ez0:wr.cell? ⟨gp,k*2,none⟩=some (.int .i64 p.2):=hc3 0 (by omega);have ez1:wr.cell? ⟨gp,k*2+1,none⟩=some (.slice none 0 0):=hc3 1 (by omega);have ku:(p.2 !=p.2)=false:=by simp);clear hc3 mz;go_wp2;go_quiet (fail);go_wp2;go_roundw;(case rel=>exact⟨k+1,by omega,by go_num,Ab hg2 (Af _ _ _)⟩);case measure=>simp[intOf];omega};{(have ix:decide (k<n)=false:=by simpa using hlt2);go_wp2;go_roundw;(case rel=>exact⟨i+1,by omega,by go_num,Ab hg hg2⟩);case measure=>simp[intOf];omega}};{(have cu:decide (i<ms.length)=false:=by simpa using hlt);go_wp2;go_ret;exact⟨rfl,hg⟩}}}}
theorem Xs{xs:List Value}(h:w.ownsRow base e size v n xs)(hs:∀k,base<=k->k<w.heap.size->w'.heap[k]?=w.heap[k]?):w'.ownsRow base e size v n xs:=by refine⟨h.1,?_⟩;rcases h.2 with h1|⟨g,cap,cur,h1,h2,h3,h4⟩;{exact .inl h1};{exact .inr ⟨g,cap,cur,h1,h2,by rw[hs g h2 (Ad h3)];exact h3,h4⟩}
theorem Q0N.fp{B:Nat}{w w':World}(hs:∀k,B<=k->k<w.heap.size->w'.heap[k]?=w.heap[k]?):∀(cs:List Q0A) (xs:List Value),Q0N B w cs xs->Q0N B w' cs xs
 |[],_,h=>h
 |_::cs,_,⟨u,ys,h1,h2,h3⟩=>⟨u,ys,h1,Xs h2 hs,Q0N.fp hs cs ys h3⟩
theorem Q0P.fp{B:Nat}{w w':World}(hs:∀k,B<=k->k<w.heap.size->w'.heap[k]?=w.heap[k]?):∀(rs:List Q0C) (xs:List Value),Q0P B w rs xs->Q0P B w' rs xs
 |[],_,h=>h
 |_::rs,_,⟨u,ys,h1,h2,h3⟩=>⟨u,ys,h1,by obtain⟨zs,g1,g2⟩:=h2;exact⟨zs,Xs g1 hs,Q0N.fp hs _ zs g2⟩,Q0P.fp hs rs ys h3⟩
theorem Q1K.fp{B:Nat}{v:Value}{rs:List Q0C}{w w':World}(h:Q1K B v rs w)(hs:∀k,B<=k->k<w.heap.size->w'.heap[k]?=w.heap[k]?):Q1K B v rs w':=by obtain⟨xs,h1,h2⟩:=h;exact⟨xs,Xs h1 hs,Q0P.fp hs rs xs h2⟩
def Q4H(T:Nat->Nat)(rv:Value)(rs:List Q0C)(w:World):Prop:=
 ∃w1 B,Q1K B rv rs w1/\w1.heap.size<=w.heap.size/\∀k,B<=k->k<w1.heap.size->w.heap[k]?=w1.heap[k]?/\T k=0
theorem Q4H.at{rs:List Q0C}(h:Q4H T rv rs w):Q1K 0 rv rs w:=by obtain⟨w1,B,h1,_,h2⟩:=h;exact(h1.fp (λk a b=>(h2 k a b).1)).weak (AG _)
theorem Q4H.keep{rs:List Q0C}(h:Q4H T rv rs w)(hg:GrS S w w')(hs:∀k,T k=0->¬ S k)(ho:∀k,k<w.heap.size->T k=0->T' k=0):Q4H T' rv rs w':=by obtain⟨w1,B,h1,h3,h2⟩:=h;refine⟨w1,B,h1,AU h3 hg.size,λk a b=>?_⟩;obtain⟨e1,e2⟩:=h2 k a b;exact⟨by rw[hg.block k (by omega) (hs k e2)];exact e1,ho k (by omega) e2⟩
def YT(T:Nat->Nat)(t y:Nat)(s:Q0F)(w:World):Prop:=
 ∃rv lv fv L fd,w.heap[y]?=some (.cells #[rv,lv,.int .i64 s.cnt,fv] 172 (0,0))/\T y=t/\Q4H T rv s.rs w/\
  Q0Q T t 176 3 Hk lv L w/\(∀th∈L,Q0Q T t 3 1 C8 th.v th.vals w/\th.vals.length<=4)/\
  Q0Q T t 52 2 mtenc fv fd w/\(∀m∈fd,Q0Q T t 3 1 C8 m.v m.ids w)/\L.map VTh.of=s.L/\fd.map VMt.of=s.fired
theorem YT.keep{T T':Nat->Nat}{t y:Nat}{s:Q0F}{w w':World}{S:Nat->Prop}(h:YT T t y s w)(hg:GrS S w w')(hs:∀k,T k=t\/T k=0->¬ S k)(ho:∀k,k<w.heap.size->T k=t\/T k=0->T' k=T k):YT T' t y s w':=by
 obtain⟨rv,lv,fv,L,fd,h1,h2,h3,h4,h5,h6,h7,h8,h9⟩:=h;have hs1:∀k,T k=t->¬ S k:=λk hk=>hs k (.inl hk);have ho1:∀k,k<w.heap.size->T k=t->T' k=t:=λk hk hk2=>by rw[ho k hk (.inl hk2)];exact hk2
 exact⟨rv,lv,fv,L,fd,hg.blk h1 (hs1 y h2),ho1 y (Ad h1) h2,h3.keep hg (λk hk=>hs k (.inr hk)) (λk hk hk2=>by rw[ho k hk (.inr hk2)];exact hk2),h4.keep2 hg hs1 ho1,λth gP=>⟨(h5 th gP).1.keep2 hg hs1 ho1,(h5 th gP).2⟩,h6.keep2 hg hs1 ho1,λm hm=>(h7 m hm).keep2 hg hs1 ho1,h8,h9⟩
theorem YT.yat{s:Q0F}(h:YT T t y s w):∃rv lv fv L fd,YAt y rv lv (.int .i64 s.cnt) fv s.rs L w/\Q1C 0 fv fd w/\L.map VTh.of=s.L/\fd.map VMt.of=s.fired:=by obtain⟨rv,lv,fv,L,fd,h1,h2,h3,h4,h5,h6,h7,h8,h9⟩:=h;exact⟨rv,lv,fv,L,fd,⟨h1,h3.at,h4.1,λth gP=>⟨(h5 th gP).1.1,(h5 th gP).2⟩⟩,⟨h6.1,λm hm=>(h7 m hm).1⟩,h8,h9⟩
theorem Q0Q.nil{α:Type}(T:Nat->Nat)(t:Nat)(e:TypeId)(size:Nat){enc:α->List Value}(h:∀a,(enc a).length=size)(w:World):Q0Q T t e size enc (.slice none 0 0) ([]:List α) w:=⟨Q0B.nil _ _ h,by simp[Value.ownBlock]⟩
theorem Q4x(T:Nat->Nat)(t:Nat)(s:ByteArray)(w:World)(hm:s.size<=maxLen):
  Calls prog 52 #[.string s] w λe w'=>w.grownBy w' none/\match Bm s.data.toList with
   |.inl k=>e=.returned (.tuple #[.pointer none,.int .i64 k])
   |.inr rs=>∃T' y,e=.returned (.tuple #[.pointer (some ⟨y,0,none⟩),.int .i64 0])/\YT T' t y ⟨rs,[],0,[]⟩ w'/\∀k,k<w.heap.size->T' k=T k:=by refine(Q4p s w hm).mono ?_;rintro e w'⟨hg,hp⟩;refine⟨hg,?_⟩;cases hr:Bm s.data.toList with|inl k=>rw[hr]at hp;exact hp|inr rs=>(rw[hr]at hp;obtain⟨y,rv,rfl,hy,⟨w1,hv,h1,hg1⟩,hY⟩:=hp;obtain⟨T',bH⟩:∃T':Nat->Nat,∀k,T' k=if k<w.heap.size then T k else if k=y then t else 0:=⟨_,λ_=>rfl⟩);refine⟨T',y,rfl,⟨rv,.slice none 0 0,.slice none 0 0,[],[],hY.blk,by rw[bH,AO (by omega),AQ rfl],?_,Q0Q.nil _ _ _ _ Gr _,by simp,Q0Q.nil _ _ _ _ Cy _,by simp,rfl,rfl⟩,λk hk=>by rw[bH,AQ hk]⟩;exact⟨w1,w.heap.size,hv,hg1.size,λk a b=>⟨hg1.block k b (by simp),by rw[bH,AO (by omega),AO (by omega)]⟩⟩
theorem Q4w(T:Nat->Nat)(t y:Nat)(s:Q0F)(f:Q0E)(fa:Option Addr)(fc:Nat)(w:World)(ht:t≠0)(hy:YT T t y s w)(aI:Q2L s)(hc1:s.cnt<=4611686018427387904)(hf:Q0V (.slice fa f.vals.length fc) f.vals w)(TR:f.vals≠[]->∀g,(Value.slice fa f.vals.length fc).ownBlock=some g->T g≠t):Calls prog 80 #[.pointer (some ⟨y,0,none⟩),.agg #[.int .i64 f.kind,.slice fa f.vals.length fc]] w λe w'=>e=.returned (.tuple #[.int .i64 (s.add f).1.1,.int .i64 (s.add f).1.2])/\GrS (λk=>T k=t) w w'/\∃T',YT T' t y (s.add f).2 w'/\∀k,k<w.heap.size->T' k=T k:=by
 have LM:=hy;obtain⟨rv,lv,fv,L,fd,h1,h2,h3,h4,h5,h6,h7,h8,h9⟩:=hy;have iz:YAt y rv lv (.int .i64 s.cnt) fv s.rs L w:=⟨h1,h3.at,h4.1,λth gP=>⟨(h5 th gP).1.1,(h5 th gP).2⟩⟩
 have QG:Q1C 0 fv fd w:=⟨h6.1,λm hm=>(h7 m hm).1⟩
 have py:L.length=s.L.length:=by rw[<-h8,AY]
 have bZ:fd.length=s.fired.length:=by rw[<-h9,AY]
 by_cases hn:Au f=false\/16<=L.length;{refine(Q27 y rv lv _ fv s.rs L f fa fc w iz (by have:=aI.facts;omega) hf hn).mono ?_;rintro e w'⟨rfl,hg⟩;(have hadd:s.add f=((0,if Au f=false then 3 else 4),s):=by unfold Q0F.add;by_cases hF:Au f=false;{rw[AQ hF,AQ hF]};{rw[AO hF,AO hF,AQ (by rcases hn with h|h;exact absurd h hF;omega)]});rw[hadd];refine⟨?_,GrS.of hg (by simp),T,LM.keep (GrS.of (S:=λ_=>False) hg (by simp)) (by simp) (λ_ _ _=>rfl),λ_ _=>rfl⟩;by_cases hF:Au f=false;{simp[hF]};{simp[hF]}};{have hF:¬ Au f=false:=λh=>hn (.inl h);(have hF2:Au f=true:=by simpa using hF);(have gK:L.length<16:=by have:¬ 16<=L.length:=λh=>hn (.inr h);omega);(refine(Q0y y rv lv fv s.cnt aI.c0 hc1 s.rs L fd f fa fc w iz aI.rules gK QG (by have:=aI.fired;omega) hf (λhne e=>TR hne y e h2) hF2).mono ?_;rintro e w'⟨rfl,hG,ew,ae,th,iO,t1,t2,t3,hY,hM,hmap,dD,hlv,zI,fU⟩;have TF:th.of=(s.cnt+1,f):=by unfold VTh.of;rw[t1,t2,t3]);(have hadd:s.add f=((s.cnt+1,0),⟨s.rs,s.L++[(s.cnt+1,f)],s.cnt+1,Bh (Ak s.rs (s.L++[(s.cnt+1,f)])) s.fired⟩):=by unfold Q0F.add;rw[AO hF,AO (by omega)]);rw[hadd];(have rZ:∀k,(k=y\/lv.ownBlock=some k)->T k=t:=by rintro k (rfl|h);{exact h2};{exact h4.2 k h});(have wG:GrS (λk=>T k=t) w w':=hG.mono rZ;obtain⟨T',bH⟩:∃T':Nat->Nat,∀k,T' k=if k<w.heap.size then T k else t:=⟨_,λ_=>rfl⟩);(have dG:∀k,k<w.heap.size->T' k=T k:=λk hk=>by rw[bH,AQ hk]);(have uL:∀k,w.heap.size<=k->T' k=t:=λk hk=>by rw[bH,AO (by omega)]);(have tI:=Ad h1;have ke:(L++[th]).map VTh.of=s.L++[(s.cnt+1,f)]:=by rw[BZ,h8,List.map_singleton,TF]);refine⟨rfl,wG,T',⟨rv,ew,ae,L++[th],iO,hY.blk,by rw[dG y tI];exact h2,h3.keep wG (λk hk=>by omega) (λk hk hk2=>by rw[dG k hk];exact hk2),⟨hY.facts,λg hg=>?_⟩,λx hx=>⟨⟨(hY.vals x hx).1,λg hg=>?_⟩,(hY.vals x hx).2⟩,⟨hM.1,λg hg=>uL g (fU g hg)⟩,λm hm=>⟨hM.2 m hm,λg hg=>?_⟩,ke,?_⟩,dG⟩;{rcases hlv g hg with h|h;{rw[dG g (h4.1.own g h).2];exact h4.2 g h};{exact uL g h}};{rcases BA.1 hx with h|h;{rw[dG g ((h5 x h).1.1.own g hg).2];exact(h5 x h).1.2 g hg};{simp only[AZ]at h;subst h;exact uL g (zI g hg)}};{have hmm:=dD m hm;rw[dG g ((h7 m hmm).1.own g hg).2];exact(h7 m hmm).2 g hg};{rw[hmap,ke,h9]}}
structure Q5K(X:(Nat->Nat)->Nat->Nat->Q0F->World->Prop):Prop where
 keep:∀ {T T':Nat->Nat} {t x:Nat} {s:Q0F} {w w':World} {S:Nat->Prop},X T t x s w->GrS S w w'->(∀k,T k=t\/T k=0->¬ S k)->(∀k,k<w.heap.size->T k=t\/T k=0->T' k=T k)->X T' t x s w'
 add:∀(T:Nat->Nat) (t x:Nat) (s:Q0F) (f:Q0E) (fa:Option Addr) (fc:Nat) (w:World),t≠0->X T t x s w->Q2L s->s.cnt<=4611686018427387904->Q0L 0 (.slice fa f.vals.length fc) f.vals w->(∀g,(Value.slice fa f.vals.length fc).ownBlock=some g->T g≠t)->
  Calls prog 18 #[.pointer (some ⟨x,0,none⟩),.agg #[.int .i64 f.kind,.slice fa f.vals.length fc]] w λe w'=>e=.returned (.tuple #[.int .i64 (s.add f).1.1,.int .i64 (s.add f).1.2])/\GrS (λk=>T k=t) w w'/\∃T',X T' t x (s.add f).2 w'/\∀k,k<w.heap.size->T' k=T k
 facts:∀(T:Nat->Nat) (t x:Nat) (s:Q0F) (w:World),t≠0->X T t x s w->Q2L s->
  Calls prog 24 #[.pointer (some ⟨x,0,none⟩)] w λe w'=>∃T' a l xs,e=.returned (.tuple #[a,l])/\w.grownBy w' none/\Hand T' 37 l xs w'/\Q0Q T' (13+3*(xs.length+1)) 3 1 C8 a (s.L.map Prod.fst) w'/\xs.map (λx=>(⟨x.kind,x.vals⟩:Q0E))=s.L.map Prod.snd/\∀k,k<w.heap.size->T' k=T k
 mats:∀(T:Nat->Nat) (t x:Nat) (s:Q0F) (w:World),t≠0->X T t x s w->Q2L s->
  Calls prog 21 #[.pointer (some ⟨x,0,none⟩)] w λe w'=>∃T' l xs,e=.returned l/\w.grownBy w' none/\Hand T' 52 l xs w'/\xs.map (λx=>(x.kind,x.vals))=Ak s.rs s.L/\∀k,k<w.heap.size->T' k=T k
theorem Hand.keep{xs:List VFt}(h:Hand T e v xs w)(hg:GrS S w w')(hs:∀k,(T k=13\/∃i,i<xs.length/\T k=13+3*(i+1))->¬ S k)(ho:∀k,k<w.heap.size->(T k=13\/∃i,i<xs.length/\T k=13+3*(i+1))->T' k=T k):Hand T' e v xs w':=by refine⟨h.row.keep2 hg (λk hk=>hs k (.inl hk)) (λk hk hk2=>by rw[ho k hk (.inl hk2)];exact hk2),λi x hx=>?_⟩;have hi:=(AK.1 hx).1;obtain⟨h1,h2⟩:=h.els i x hx;exact⟨h1.keep2 hg (λk hk=>hs k (.inr ⟨i,hi,hk⟩)) (λk hk hk2=>by rw[ho k hk (.inr ⟨i,hi,hk2⟩)];exact hk2),h2⟩
theorem Q1P.keep(h:Q1P T uv k0 us w)(hg:GrS S w w')(hs:∀k,(T k=3\/T k=6\/T k=10)->¬ S k)(ho:∀k,k<w.heap.size->(T k=3\/T k=6\/T k=10)->T' k=T k):Q1P T' uv k0 us w':=by obtain⟨a1,a2,a3⟩:=h;refine⟨a1.keep2 hg (λk hk=>hs k (.inl hk)) (λk hk hk2=>by rw[ho k hk (.inl hk2)];exact hk2),a2.keep2 hg (λk hk=>hs k (.inr (.inl hk))) (λk hk hk2=>by rw[ho k hk (.inr (.inl hk2))];exact hk2),λp hp=>?_⟩;obtain⟨n,hn⟩:=a3 p hp;exact⟨n,hn.keep2 hg (λk hk=>hs k (.inr (.inr hk))) (λk hk hk2=>by rw[ho k hk (.inr (.inr hk2))];exact hk2)⟩
theorem Q2E.keep{A B:Nat}{se:TypeId}(h:Q2E A B se e T uv k0 us w)(hg:GrS S w w')(hs:∀k,(T k=A\/T k=B\/T k=10)->¬ S k)(ho:∀k,k<w.heap.size->(T k=A\/T k=B\/T k=10)->T' k=T k):Q2E A B se e T' uv k0 us w':=by obtain⟨a1,a2,a3⟩:=h;refine⟨a1.keep2 hg (λk hk=>hs k (.inl hk)) (λk hk hk2=>by rw[ho k hk (.inl hk2)];exact hk2),a2.keep2 hg (λk hk=>hs k (.inr (.inl hk))) (λk hk hk2=>by rw[ho k hk (.inr (.inl hk2))];exact hk2),λp hp=>?_⟩;obtain⟨n,hn⟩:=a3 p hp;exact⟨n,hn.keep2 hg (λk hk=>hs k (.inr (.inr hk))) (λk hk hk2=>by rw[ho k hk (.inr (.inr hk2))];exact hk2)⟩
theorem Q4G.keep{ls:List Value}(h:Q4G T lv ls w)(hg:GrS S w w')(hs:∀k,(T k=9\/T k=10)->¬ S k)(ho:∀k,k<w.heap.size->(T k=9\/T k=10)->T' k=T k):Q4G T' lv ls w':=by obtain⟨a1,a3⟩:=h;refine⟨a1.keep2 hg (λk hk=>hs k (.inl hk)) (λk hk hk2=>by rw[ho k hk (.inl hk2)];exact hk2),λp hp=>?_⟩;obtain⟨n,hn⟩:=a3 p hp;exact⟨n,hn.keep2 hg (λk hk=>hs k (.inr hk)) (λk hk hk2=>by rw[ho k hk (.inr hk2)];exact hk2)⟩
structure Q1J(T:Nat->Nat)(W:Nat)(nv uv fv mv k0 k1 k2 lv:Value)(us fs ms:List (Value×Int))(ls:List Value)(w:World):Prop where
 blk:Q1N W #[nv,uv,fv,mv,k0,k1,k2,lv] w
 own:T W=1
 nums:Q1P T uv k0 us w
 lent:Q4G T lv ls w
 facts:Q2E 4 7 47 37 T fv k1 fs w
 mats:Q2E 5 8 43 52 T mv k2 ms w
theorem Q1J.gr{T T':Nat->Nat}{W:Nat}{nv uv fv mv k0 k1 k2 lv:Value}{us fs ms:List (Value×Int)}{ls:List Value}{w w':World}(h:Q1J T W nv uv fv mv k0 k1 k2 lv us fs ms ls w)(hg:w.grownBy w' none)(ho:∀k,k<w.heap.size->T' k=T k):Q1J T' W nv uv fv mv k0 k1 k2 lv us fs ms ls w':=by have hG:GrS (λ_=>False) w w':=GrS.of hg (by simp);exact⟨h.blk.gr hg (by simp),by rw[ho W (Ad h.blk)];exact h.own,h.nums.keep hG (by simp) (λk hk _=>ho k hk),h.lent.keep hG (by simp) (λk hk _=>ho k hk),h.facts.keep hG (by simp) (λk hk _=>ho k hk),h.mats.keep hG (by simp) (λk hk _=>ho k hk)⟩
theorem Q1a(h:¬ InH t)(j:Nat):t≠13+3*j:=λe=>h ⟨by omega,by omega⟩
def Ks(T:Nat->Nat)(W:Nat)(nv mv k2 lv:Value)(us fs ms:List (Value×Int))(ls:List Value)(w:World)(e:Ending)(w':World):Prop:=
 e=.returned (.bool true)/\∃T' ik ae il LG gW kG,Q1J T' W nv ik ae mv il LG k2 lv gW kG ms ls w'/\gW.length<=us.length+68/\kG.length=fs.length+4/\
  GrS (λk=>T k=1\/T k=3\/T k=6\/T k=4\/T k=7\/InH (T k)) w w'/\∀k,k<w.heap.size->¬ InH (T k)->T' k=T k
theorem Q25(X:(Nat->Nat)->Nat->Nat->Q0F->World->Prop)(hX:Q5K X)(T:Nat->Nat)(W:Nat)(nv uv fv mv k0 k1 k2 lv:Value)(us fs ms:List (Value×Int))(ls:List Value)(w:World) (mC:Q1J T W nv uv fv mv k0 k1 k2 lv us fs ms ls w)(tx ty x y:Nat)(s:Q0F)(zH:tx≠0)(hx:X T tx x s w)(hy:YT T ty y s w)(aI:Q2L s)(WD:us.length+100<=4398046511104)(hfs:fs.length<=4398046511104):Calls prog 55 #[.pointer (some ⟨W,0,none⟩),.agg #[.pointer (some ⟨x,0,none⟩),.pointer (some ⟨y,0,none⟩)]] w λe w'=>Ks T W nv mv k2 lv us fs ms ls w e w':=by
 have a7:=AA w (.cells #[.pointer (some ⟨x,0,none⟩),.pointer (some ⟨y,0,none⟩)] 106) none;have hP:C2 106 w.heap.size (.pointer (some ⟨x,0,none⟩)) (.pointer (some ⟨y,0,none⟩)) (w.alloc (.cells #[.pointer (some ⟨x,0,none⟩),.pointer (some ⟨y,0,none⟩)] 106)):=AR _ _;have hXF:=hX.facts T tx x s _ zH (hX.keep hx (GrS.of (S:=λ_=>False) a7 (by simp)) (by simp) (λ_ _ _=>rfl)) aI;have RX:=Ac mC;have HY:=Ac hy;have fj:=Ac aI;have HUS:=Ac WD;have HFS:=Ac hfs;clear mC hx hy aI WD hfs;go_enter func55,ntmps55;go_wp2_with fail;refine hXF.mono ?_;rintro e w1⟨T1,a,l,xs,rfl,hg1,ZX,ha1,hmap,fY⟩;obtain⟨aA,cA,rfl⟩:=ha1.1.slice;obtain⟨aL,cL,rfl⟩:=ZX.row.1.slice;have bE:=Ab a7 hg1;have yK:=hP.kept hg1 (by simp);obtain⟨p0,p1⟩:=yK.c;have di:∀k,k<w.heap.size->T1 k=T k:=λk hk=>fY k (by simp;omega);have HH1:=Ac ZX;have SN:=Ac ha1;have ug:=Ac hmap;have lQ:=Ac di;clear hXF ZX ha1 hmap fY di a7 hP hg1;obtain⟨rv,ew,ae,L,fd,iz,_,rb,_⟩:=((Aa HY).keep (T':=T) (GrS.of (S:=λ_=>False) bE (by simp)) (by simp) (λ_ _ _=>rfl)).yat;have py:L.length=s.L.length:=by rw[<-rb,AY]
 have gY:xs.length=s.L.length:=by have:=BJ List.length (Aa ug);simpa using this
 have gK:s.L.length<=16:=(Aa fj).facts;have hVF:=Q0z y rv ew _ ae s.rs L w1 iz (by omega);have gj:=iz.vals;have RH:=Ac gj;have HLM:=Ac rb;clear iz gj rb;go_wp2_with fail;refine hVF.mono ?_;rintro e w2⟨b,kk,rfl,hb,XO,hg2⟩;obtain⟨aB,cB,rfl⟩:=hb.slice;obtain⟨aQ,cQ,rfl⟩:=XO.slice;have cC:s.L.map Prod.fst=L.map VTh.id:=by rw[<-Aa HLM,DL];rfl
 have TA:=Q7 (s.L.map Prod.fst) (L.map VTh.id) _ _ w2 ((Aa SN).1.gr hg2) (hb.weak (AG _));have hdec:decide (s.L.map Prod.fst=L.map VTh.id)=true:=by simpa using cC
 rw[hdec]at TA;have bU:=Ab bE hg2;have HKK:=Ac XO;clear hVF hdec cC hb XO yK p0 p1;rw[AY,AY,py]at TA;have e1:(L.map VTh.ft).length=s.L.length:=by rw[AY];exact py
 have e2:(L.map VTh.id).length=s.L.length:=by rw[AY];exact py
 rw[e1,e2];clear e1 e2;have hN:s.L.length<=16:=gK;go_wp2_with fail;refine TA.mono ?_;rintro e w3⟨rfl,hg3⟩;have ar:=Ab bU hg3;have OI:=Ab hg2 hg3;have zR:((s.L.length:Int)==(s.L.length:Int))=true:=by simp
 have zi:=Ac gY;have zt:=Ac py;clear TA hg2 gY py;go_wp2;go_loopw [9,10] (λo z w'=>∃i:Nat,i<=s.L.length/\o=.bool true/\z=.int .i64 i/\w3.grownBy w' none) (λ_ z _=>s.L.length-(intOf z).toNat);case atStart=>exact⟨0,AG _,rfl,rfl,AD _ _⟩
 case round=>obtain⟨i,hi,rfl,rfl,hg⟩:=hrel;by_cases hlt:i<s.L.length;{(have cu:decide (i<s.L.length)=true:=by simpa using hlt);(have gY:=Aa zi;have py:=Aa zt;obtain⟨q,hq⟩:∃q,xs[i]?=some q:=⟨xs[i]'(by omega),AB (by omega)⟩);(obtain⟨th,gP⟩:∃th,L[i]?=some th:=⟨L[i]'(by omega),AB (by omega)⟩);(have WT:(⟨q.kind,q.vals⟩:Q0E)=⟨th.kind,th.vals⟩:=by have h1:=BJ (λz=>z[i]?) (Aa ug);simp only[BR,hq,DM,<-Aa HLM,gP]at h1;simpa[VTh.of]using h1);(have hqk:q.kind=th.kind:=BJ Q0E.kind WT;have hqv:q.vals=th.vals:=BJ Q0E.vals WT;have xe:=Ab OI hg;obtain⟨g,cp,hv,hcs⟩:=((Aa HH1).row.1.gr xe).cells hq;simp only[AH,BP]at hv;obtain⟨rfl,rfl⟩:=hv;have ic:(L.map VTh.ft)[i]?=some th.ft:=by rw[BR,gP];rfl);obtain⟨g2,UR,hv2,dW⟩:=((Aa HKK).gr (Ab hg3 hg)).cells ic;simp only[AH,BP]at hv2;obtain⟨rfl,rfl⟩:=hv2;have q0:wr.cell? ⟨g,i*2,none⟩=some (.int .i64 q.kind):=hcs 0 (by omega);have q1:wr.cell? ⟨g,i*2+1,none⟩=some q.v:=hcs 1 (by omega);have t0:wr.cell? ⟨g2,i*2,none⟩=some (.int .i64 th.kind):=dW 0 (by omega);have t1:wr.cell? ⟨g2,i*2+1,none⟩=some th.v:=dW 1 (by omega);have WU:=((Aa HH1).els i q hq).1.1;have zJ:=(Aa RH th (AW gP)).1;have hS:=λ(Z:World) (hZ:wr.grownBy Z none)=>Q7 q.vals th.vals q.v th.v Z (WU.gr (Ab xe hZ)) (zJ.gr (Ab xe hZ));(have pq:decide (q.vals=th.vals)=true:=by simpa using hqv);(rw[pq]at hS;obtain⟨qa,qc,xK⟩:=WU.slice;obtain⟨ta,tc,wz⟩:=zJ.slice;rw[xK]at q1;rw[wz]at t1;rw[xK,wz]at hS;rw[hqk]at q0;have ix:(th.kind==th.kind)=true:=by simp);clear hcs dW hq gP WT hqk hqv ic WU zJ pq xK wz gY py;go_wp2_with fail;go_cut [11] (λz wx=>z=.bool true/\wr.grownBy wx none);(case first=>go_region_with (go_at_call 82;refine(hS _ (by repeat (first|exact AD _ _|apply Ah))).mono ?_;rintro e w4⟨rfl,hg4⟩);all_goals go_wp2_with fail;go_meet;exact⟨rfl,Ab (Ah (AD _ _)) hg4⟩);case rest=>obtain⟨rfl,hg4⟩:=hcut;have bQ:=Ab hg hg4;have q02:=hg4.cell q0 (by simp);have VM:=hg4.cell t0 (by simp);clear hS hg4 q0 q1 t0 t1;go_wp2;go_quiet (fail);go_wp2;go_roundw;(case rel=>exact⟨i+1,by omega,rfl,by go_num,Ab bQ (Af _ _ _)⟩);case measure=>simp[intOf];omega};{(have cu:decide (i<s.L.length)=false:=by simpa using hlt);(have hg0:=Ab ar hg;have hl0:=(Aa RX).gr (T':=T) hg0 (λ_ _=>rfl);have lD:=Ff T W nv uv fv mv k0 k1 k2 lv us fs ms ls wr hl0.blk hl0.nums hl0.lent hl0.facts hl0.mats;clear hlt hi;go_wp2_with fail;refine lD.mono ?_;rintro e w5⟨rfl,aW⟩;have bY:=Ab hg0 aW;have aK:=(Aa RX).gr (T':=T1) bY (Aa lQ);have YF:=Ab (Ab OI hg) aW;have ZY:GrS (λ_=>False) w1 w5:=GrS.of YF (by simp);have ha5:=(Aa SN).keep2 (T':=T1) ZY (by simp) (λ_ _ h=>h);have za:=(Aa HH1).keep (T':=T1) ZY (by simp) (λ_ _ _=>rfl);have TY:=Aa zi;have hO:=Sy T1 (13+3*(xs.length+1)) W nv uv fv mv k0 k1 k2 lv us _ _ w5 aK.blk aK.own aK.nums ha5 (by omega) (by have:=Aa HUS;omega) (by rw[AY];omega);rw[AY]at hO;have RY:=Ac aK;have VG:=Ac za;clear TY lD hl0 aK za ha5 ZY;go_wp2_with fail;refine hO.mono ?_;rintro e w6⟨rfl,T3,uv3,k03,us3,hW3,ej,SZ,jo,gU⟩;have aK:=Aa RY;have j0:W<w5.heap.size:=Ad aK.blk;have nP:T3 W=1:=by rw[gU W j0 (by rw[aK.own];omega)];exact aK.own);(have hE6:Q2E 4 7 47 37 T3 fv k1 fs w6:=aK.facts.keep jo (λk hk=>by omega) (λk hk hk2=>gU k hk (by omega));have hH6:Hand T3 37 (.slice aL xs.length cL) xs w6:=(Aa VG).keep jo (λk hk=>by rcases hk with h|⟨j,hj,h⟩<;>omega) (λk hk hk2=>gU k hk (by rcases hk2 with h|⟨j,hj,h⟩<;>omega));have TY:=Aa zi;have ZR:=Q4a T3 W nv uv3 fv mv k03 k1 k2 lv us3 fs _ xs w6 hW3 nP ej hE6 hH6 (by have:=Aa HUS;omega) (Aa HFS) (by omega);rw[TY]at ZR;have HK:=Ac (show us3.length=us.length+4/\GrS (λk=>T1 k=1\/T1 k=3\/T1 k=6\/T1 k=13+3*(xs.length+1)) w5 w6/\(∀k,k<w5.heap.size->T1 k≠13+3*(xs.length+1)->T3 k=T1 k)/\T3 W=1 from⟨SZ,jo,gU,nP⟩);clear hO TY hE6 hH6 hW3 ej SZ jo gU nP aK;go_wp2_with fail;refine ZR.mono ?_;rintro e w7⟨rfl,T4,uv4,k04,us4,fv4,k14,fs4,zU,bS,hE4,og,TS,fL,rW⟩;obtain⟨SZ,jo,gU,nP⟩:=Aa HK;have aK:=Aa RY;have LZ:=jo.size;have TG:∀t:Nat,t<13->¬ InH t:=λt h hI=>by have:=hI.1;omega);(have PV:T4 W=1:=by rw[rW W (by have:=Ad aK.blk;omega) (by rw[nP];exact TG 1 (by omega))];exact nP);(have vM:Q4G T4 lv ls w7:=by refine(aK.lent.keep jo (λk hk=>by omega) (λk hk hk2=>gU k hk (by omega))).keep fL (λk hk h=>?_) (λk hk hk2=>rW k hk (by rcases hk2 with h|h<;>(rw[h];exact TG _ (by omega))));rcases h with h|h|h|h|h|h;{omega};{omega};{omega};{omega};{omega};{have:=h.1;omega});(have vK:Q2E 5 8 43 52 T4 mv k2 ms w7:=by refine(aK.mats.keep jo (λk hk=>by omega) (λk hk hk2=>gU k hk (by omega))).keep fL (λk hk h=>?_) (λk hk hk2=>rW k hk (by rcases hk2 with h|h|h<;>(rw[h];exact TG _ (by omega))));rcases h with h|h|h|h|h|h;{omega};{omega};{omega};{omega};{omega};{have:=h.1;omega});(have zV:∀k,k<w.heap.size->¬ InH (T k)->T3 k=T k:=by intro k hk hI;have h1:=Aa lQ k hk;rw[gU k (AV hk bY.size) (by rw[h1];exact Q1a hI _),h1]);(have nU:GrS (λk=>T k=1\/T k=3\/T k=6\/T k=4\/T k=7\/InH (T k)) w w7:=by have h1:GrS (λk=>T k=1\/T k=3\/T k=6\/T k=4\/T k=7\/InH (T k)) w w5:=GrS.of bY (by simp);refine(h1.comp jo (λk hk hn=>?_)).comp fL (λk hk hn=>?_);{have hI:¬ InH (T k):=λh=>hn (.inr (.inr (.inr (.inr (.inr h)))));rw[Aa lQ k hk];rintro(h|h|h|h);{exact hn (.inl h)};{exact hn (.inr (.inl h))};{exact hn (.inr (.inr (.inl h)))};{exact Q1a hI _ h}};{have hI:¬ InH (T k):=λh=>hn (.inr (.inr (.inr (.inr (.inr h)))));rw[zV k hk hI];exact hn});(have zW:∀k,k<w.heap.size->¬ InH (T k)->T4 k=T k:=by intro k hk hI;have h1:=zV k hk hI;rw[rW k (AV hk (AU bY.size LZ)) (by rw[h1];exact hI),h1]);have js:=Ac (show ∃T' ik ae il LG gW kG,Q1J T' W nv ik ae mv il LG k2 lv gW kG ms ls w7/\gW.length<=us.length+68/\kG.length=fs.length+4/\GrS (λk=>T k=1\/T k=3\/T k=6\/T k=4\/T k=7\/InH (T k)) w w7/\∀k,k<w.heap.size->¬ InH (T k)->T' k=T k from ⟨T4,uv4,fv4,k04,k14,us4,fs4,⟨zU,PV,bS,vM,hE4,vK⟩,by omega,TS,nU,zW⟩);clear ZR zU bS hE4 og TS fL rW SZ jo gU nP aK TG PV vM vK zV nU zW;go_wp2;go_ret;exact⟨rfl,Aa js⟩}
end Go.Proofs.YtolhbeekfjnfmaaGreatDoor
namespace Go.Proofs.YtolhbeekfjnfmaaGreatDoor
open Go.Proofs.Tryz
variable {y base g n cap j j2 size W i k t:Nat}{rv lv cv fv v v1 v2 uv k0:Value}{w w':World}{α:Type}{l:List Int}{row:Option Nat}{m:Int}{e:TypeId}{c:Array Value}{S:Nat->Prop}{T T':Nat->Nat}{us:List (Value×Int)}
structure Ft where
 blk:Nat
 id:Int
 f:Q0E
structure Site where
 letter:UInt8
 fact:Nat
 place:Nat
structure Lnk where
 place:Nat
 at':Site
abbrev Tok:=List Ft
def Site.bindT(k:Nat):Nat->List Q0D->List Site
 |_,[]=>[]
 |p,t::ts=>(if t.sort=1 then [⟨t.letter,k,p⟩]else [])++Site.bindT k (p+1) ts
def Site.find:List Site->UInt8->Option Site
 |[],_=>none
 |s::ss,n=>if s.letter=n then some s else Site.find ss n
def Lnk.of(ahead:List Site):Nat->List Q0D->List Lnk
 |_,[]=>[]
 |p,t::ts=>(if t.sort=1 then (match Site.find ahead t.letter with|none=>[]|some s=>[⟨p,s⟩])else [])++Lnk.of ahead (p+1) ts
def Q0D.eqb(a b:Q0D):Bool:=a.sort==b.sort&&a.letter==b.letter&&a.value==b.value
def Cf:List Q0D->Q0D->Nat
 |[],_=>0
 |u::us,t=>if Q0D.eqb u t=true then 0 else Cf us t+1
def Zy(all:List Q0D)(vs:List Int):Nat->List Q0D->Bool
 |_,[]=>true
 |p,t::ts=>(if t.sort=2 then vs.getD p 0==t.value else if t.sort=1 then vs.getD p 0==vs.getD (Cf all t) 0 else true)&&Zy all vs (p+1) ts
def Io(c:Q0A)(f:Q0E):Bool:=f.kind==(c.kind:Int)&&f.vals.length==c.terms.length&&Zy c.terms f.vals 0 c.terms
def Tok.val(t:Tok)(s:Site):Int:=((t[s.fact]?.map (λg=>g.f.vals)).getD []).getD s.place 0
def Cp(ls:List Lnk)(t:Tok)(f:Q0E):Bool:=ls.all λl=>f.vals.getD l.place 0==t.val l.at'
structure Nd where
 c:Q0A
 links:List Lnk
 K:List Ft
 toks:List Tok
structure En where
 toks:List Tok
 wait:List Tok
def Nd.ext(n:Nd)(t:Tok):List Tok:=
 if n.c.neg=true then (if n.K.any (λg=>Cp n.links t g.f)=true then []else [t])
 else (n.K.filter (λg=>Cp n.links t g.f)).map (λg=>t++[g])
def Dk(put:List Tok->Tok->List Tok):List Nd->En->List Tok->List Nd×En
 |[],e,ts=>([],⟨e.toks++ts,ts.foldl put e.wait⟩)
 |n::ns,e,ts=>
  let r:=Dk put ns e (ts.flatMap n.ext)
  ({ n with toks:=n.toks++ts } :: r.1,r.2)
theorem Ev(put:List Tok->Tok->List Tok):∀(ns:List Nd) (e:En),Dk put ns e []=(ns,e)
 |[],e=>by simp[Dk]
 |n::ns,e=>by simp[Dk,Ev put ns e]
theorem C5(put:List Tok->Tok->List Tok):∀(ns:List Nd) (e:En) (a b:List Tok),Dk put ns e (a++b)=Dk put (Dk put ns e a).1 (Dk put ns e a).2 b
 |[],e,a,b=>by simp[Dk]
 |n::ns,e,a,b=>by
  have h:∀t,Nd.ext { n with toks:=n.toks++a } t=n.ext t:=λ_=>rfl
  have h2:(Nd.ext { n with toks:=n.toks++a })=n.ext:=funext h;simp only[Dk,CM];rw[C5 put ns e];simp[h2]
theorem Cv(put:List Tok->Tok->List Tok):∀(ns:List Nd) (e:En) (a:List Tok),(Dk put ns e a).1.length=ns.length
 |[],e,a=>rfl
 |n::ns,e,a=>by simp[Dk,Cv put ns]
def Nd.drop(gone:Tok->Bool)(n:Nd):Nd:={ n with toks:=n.toks.filter (λt=>!gone t) }
def Dy:List Q0D->List Int->UInt8->Option Int
 |t::ts,v::vs,x=>if t.sort=1/\t.letter=x then some v else Dy ts vs x
 |_,_,_=>none
theorem Jb(b:Q0X)(x:UInt8)(v:Int)(y:UInt8):Bi (b++[(x,v)]) y=(Bi b y).or (if x=y then some v else none):=by induction b with|nil=>simp[Bi]|cons p b ih=>simp only[CN,Bi];split;{simp};{exact ih}
theorem Site.find_app(a b:List Site)(x:UInt8):Site.find (a++b) x=(Site.find a x).or (Site.find b x):=by induction a with|nil=>simp[Site.find]|cons p a ih=>simp only[CN,Site.find];split;{simp};{exact ih}
theorem Q1m{a:Option α}{u:α}(h:a=some u)(b c:Option α):a.or b=a.or c:=by subst h;simp
theorem Du:∀(ts:List Q0D) (vs:List Int) (b b':Q0X),B6 ts vs b=some b'->∀x,Bi b' x=(Bi b x).or (Dy ts vs x)
 |[],vs,b,b',h=>by simp[B6]at h;subst h;simp[Dy]
 |t::ts,[],b,b',h=>by simp[B6]at h;subst h;simp[Dy]
 |t::ts,v::vs,b,b',h=>by
  intro x;unfold B6 at h;unfold Dy;split at h
  ·rename_i h0
   rw[Du ts vs b b' h x,AO (by omega)]
  ·split at h
   ·rename_i h1
    split at h
    ·rename_i hn
     rw[Du ts vs _ b' h x,Jb];by_cases e:t.letter=x
     ·rw[AQ e,AQ ⟨h1,e⟩,<-e,hn];simp
     ·rw[AO e,AO (λk=>e k.2)];simp
    ·rename_i u hu
     split at h
     ·rw[Du ts vs b b' h x]
      by_cases e:t.letter=x
      ·rw[<-e];exact Q1m hu _ _
      ·rw[AO (λk=>e k.2)]
     ·cases h
   ·rename_i h1
    split at h
    ·rw[Du ts vs b b' h x,AO (λk=>h1 k.1)]
    ·cases h
def M3(ts:List Q0D)(vs:List Int)(b:Q0X):Prop:=
 ∀i t,ts[i]?=some t->(t.sort=2->vs.getD i 0=t.value)/\(t.sort=1->∀u,(Bi b t.letter).or (Dy (ts.take i) (vs.take i) t.letter)=some u->vs.getD i 0=u)
theorem Dn{t:Q0D}{ts:List Q0D}{v:Int}{vs:List Int}{b b1:Q0X}(hb:∀x i,(Bi b1 x).or (Dy (ts.take i) (vs.take i) x)=(Bi b x).or (Dy ((t::ts).take (i+1)) ((v::vs).take (i+1)) x)):M3 (t::ts) (v::vs) b↔((t.sort=2->v=t.value)/\(t.sort=1->∀u,Bi b t.letter=some u->v=u))/\M3 ts vs b1:=by constructor;{intro h;refine⟨?_,λi s hs=>?_⟩;{have:=h 0 t rfl;simpa[Dy]using this};{have:=h (i+1) s (by simpa using hs);refine⟨λk=>by simpa using this.1 k,λk u hu=>?_⟩;rw[hb]at hu;simpa using this.2 k u hu}};{rintro⟨h1,h2⟩ i s hs;cases i with|zero=>simp at hs;subst hs;simpa[Dy]using h1|succ i=>have:=h2 i s (by simpa using hs);refine⟨λk=>by simpa using this.1 k,λk u hu=>?_⟩;rw[<-hb]at hu;simpa using this.2 k u hu}
theorem D8:∀(ts:List Q0D) (vs:List Int) (b:Q0X),ts.length=vs.length->(∀t∈ts,t.sort<=2)->((B6 ts vs b).isSome=true↔M3 ts vs b)
 |[],vs,b,_,_=>by simp[B6,M3]
 |t::ts,[],b,h,_=>by simp at h
 |t::ts,v::vs,b,hl,hs=>by
  have hl':ts.length=vs.length:=by simpa using hl
  have hs':∀t∈ts,t.sort<=2:=λx hx=>hs x (BH _ hx)
  have ht:=hs t (BF ..);unfold B6;split
  ·rename_i h0
   rw[D8 ts vs b hl' hs',Dn (b1:=b)]
   ·constructor
    ·intro h;exact⟨⟨λk=>by omega,λk=>by omega⟩,h⟩
    ·exact λh=>h.2
   ·intro x i
    simp[Dy,h0]
  ·rename_i h0
   split
   ·rename_i h1
    split
    ·rename_i hn
     rw[D8 ts vs _ hl' hs',Dn (b1:=b++[(t.letter,v)])]
     ·constructor
      ·intro h;exact⟨⟨λk=>by omega,λ_ u hu=>by rw[hn]at hu;cases hu⟩,h⟩
      ·exact λh=>h.2
     ·intro x i
      rw[Jb];by_cases e:t.letter=x
      ·subst e
       simp[Dy,h1,hn]
      ·simp[Dy,e]
    ·rename_i u hu
     have hb:∀x i,(Bi b x).or (Dy (ts.take i) (vs.take i) x)=(Bi b x).or (Dy ((t::ts).take (i+1)) ((v::vs).take (i+1)) x):=by
      intro x i;by_cases e:t.letter=x
      ·rw[<-e];exact Q1m hu _ _
      ·simp[Dy,e]
     by_cases e:v=u
     ·rw[AQ e,D8 ts vs b hl' hs',Dn hb]
      constructor
      ·intro h;exact⟨⟨λk=>by omega,λ_ u' wu=>by rw[hu]at wu;cases wu;exact e⟩,h⟩
      ·exact λh=>h.2
     ·rw[AO e]
      constructor
      ·intro h;simp at h
      ·intro h
       exact absurd (((Dn hb).1 h).1.2 h1 u hu) e
   ·rename_i h1
    have h2:t.sort=2:=by omega
    have hb:∀x i,(Bi b x).or (Dy (ts.take i) (vs.take i) x)=(Bi b x).or (Dy ((t::ts).take (i+1)) ((v::vs).take (i+1)) x):=by
     intro x i;simp[Dy,h1]
    by_cases e:v=t.value
    ·rw[AQ e,D8 ts vs b hl' hs',Dn hb]
     constructor
     ·intro h;exact⟨⟨λ_=>e,λk=>by omega⟩,h⟩
     ·exact λh=>h.2
    ·rw[AO e]
     constructor
     ·intro h;simp at h
     ·intro h
      exact absurd (((Dn hb).1 h).1.1 h2) e
theorem Sa(all:List Q0D)(vs:List Int):∀(ts:List Q0D) (p:Nat),Zy all vs p ts=true↔∀i t,ts[i]?=some t->(t.sort=2->vs.getD (p+i) 0=t.value)/\(t.sort=1->vs.getD (p+i) 0=vs.getD (Cf all t) 0)
 |[],p=>by simp[Zy]
 |t::ts,p=>by
  unfold Zy;rw[DU,Sa all vs ts (p+1)];constructor
  ·rintro⟨h1,h2⟩ i s hs
   cases i with
   |zero=>
    simp only[BW,AE]at hs;subst hs;constructor
    ·intro h;simpa[h]using h1
    ·intro h;simpa[h]using h1
   |succ i=>
    have:=h2 i s (by simpa using hs);rw[show p+(i+1)=p+1+i from by omega];exact this
  ·intro h
   constructor
   ·have:=h 0 t rfl
    split
    ·rename_i h2;simpa using this.1 h2
    ·split
     ·rename_i h1;simpa using this.2 h1
     ·rfl
   ·intro i s hs
    have:=h (i+1) s (by simpa using hs);rw[show p+(i+1)=p+1+i from by omega]at this;exact this
theorem R9(ss:List Site)(t:Tok)(f:Q0E):∀(ts:List Q0D) (p:Nat),Cp (Lnk.of ss p ts) t f=true↔∀i tm,ts[i]?=some tm->tm.sort=1->∀s,Site.find ss tm.letter=some s->f.vals.getD (p+i) 0=t.val s
 |[],p=>by simp[Cp,Lnk.of]
 |tm::ts,p=>by
  have ih:=R9 ss t f ts (p+1);unfold Lnk.of;unfold Cp at ih⊢;rw[List.all_append,DU,ih];constructor
  ·rintro⟨h1,h2⟩ i s hs hv u hu
   cases i with
   |zero=>
    simp only[BW,AE]at hs;subst hs;simpa[hv,hu]using h1
   |succ i=>
    have:=h2 i s (by simpa using hs) hv u hu;rw[show p+(i+1)=p+1+i from by omega];exact this
  ·intro h
   constructor
   ·by_cases hv:tm.sort=1
    ·cases hu:Site.find ss tm.letter with
     |none=>simp[hv]
     |some s=>simpa[hv]using h 0 tm rfl hv s hu
    ·simp[hv]
   ·intro i s hs hv u hu
    have:=h (i+1) s (by simpa using hs) hv u hu;rw[show p+(i+1)=p+1+i from by omega]at this;exact this
def Es(t:Q0D):Prop:=t.sort<=2/\(t.sort=1->t.value=0)
theorem Tf{u t:Q0D}(hu:Es u)(ht:Es t)(h1:t.sort=1):Q0D.eqb u t=true↔u.sort=1/\u.letter=t.letter:=by unfold Q0D.eqb;simp only[DU,beq_iff_eq];constructor;{rintro⟨⟨a,b⟩,_⟩;exact⟨by omega,b⟩};{rintro⟨a,b⟩;exact⟨⟨by omega,b⟩,by rw[hu.2 a,ht.2 h1]⟩}
theorem Iv:∀(ts:List Q0D) (vs:List Int) (i:Nat) (t:Q0D),(∀u∈ts,Es u)->ts.length=vs.length->ts[i]?=some t->t.sort=1->
  Cf ts t<=i/\(∃u,ts[Cf ts t]?=some u/\u.sort=1/\u.letter=t.letter)/\Dy (ts.take i) (vs.take i) t.letter=(if Cf ts t<i then some (vs.getD (Cf ts t) 0)else none)
 |[],vs,i,t,_,_,h,_=>by simp at h
 |a::ts,[],i,t,_,h,_,_=>by simp at h
 |a::ts,v::vs,i,t,aI,hl,hi,h1=>by
  have hl':ts.length=vs.length:=by simpa using hl
  have hmem:t∈a::ts:=AW hi;have hq:=Tf (aI a (BF ..)) (aI t hmem) h1;unfold Cf;by_cases e:Q0D.eqb a t=true
  ·rw[AQ e]
   have e2:=hq.1 e;refine⟨AG _,⟨a,rfl,e2⟩,?_⟩;cases i with
   |zero=>simp[Dy]
   |succ i=>simp[Dy,e2.1,e2.2]
  ·rw[AO e]
   have e2:¬ (a.sort=1/\a.letter=t.letter):=λk=>e (hq.2 k)
   cases i with
   |zero=>
    simp only[BW,AE]at hi;subst hi;exact absurd ⟨h1,rfl⟩ e2
   |succ i=>
    obtain⟨k1,⟨u,k2,k3⟩,k4⟩:=Iv ts vs i t (λu hu=>aI u (BH _ hu)) hl' (by simpa using hi) h1;refine⟨by omega,⟨u,by simpa using k2,k3⟩,?_⟩;simp only[EY,Dy,AO e2,k4];by_cases hlt:Cf ts t<i
    ·rw[AQ hlt,AQ (by omega)];simp
    ·rw[AO hlt,AO (by omega)]
def Q6b(ss:List Site)(t:Tok)(b:Q0X):Prop:=∀x,Bi b x=(Site.find ss x).map (λs=>t.val s)
theorem Xe{c:Q0A}(aI:∀u∈c.terms,Es u){ss:List Site}{t:Tok}{b:Q0X}(hb:Q6b ss t b)(f:Q0E):(Az f c b).isSome=(Io c f&&Cp (Lnk.of ss 0 c.terms) t f):=by
 unfold Az Io;by_cases hk:f.kind=(c.kind:Int)
 ·by_cases hl:f.vals.length=c.terms.length
  ·rw[AQ ⟨hk,hl⟩,FH,D8 _ _ _ hl.symm (λu hu=>(aI u hu).1)];simp only[hk,hl,BEq.rfl,FB,DU];rw[Sa,R9];simp only[BU];constructor
   ·intro h;have hL:∀i tm,c.terms[i]?=some tm->tm.sort=1->∀u,Bi b tm.letter=some u->f.vals.getD i 0=u:=λi tm hi h1 u hu=>(h i tm hi).2 h1 u (by rw[hu];rfl);refine⟨λi tm hi=>⟨(h i tm hi).1,λh1=>?_⟩,λi tm hi h1 s hs=>hL i tm hi h1 _ (by rw[hb,hs];rfl)⟩;obtain⟨k1,⟨u,k2,k3,k4⟩,k5⟩:=Iv c.terms f.vals i tm aI hl.symm hi h1;cases hu:Bi b tm.letter with|some x=>rw[hL i tm hi h1 x hu,hL _ u k2 k3 x (by rw[k4];exact hu)]|none=>by_cases hlt:Cf c.terms tm<i;{rw[AQ hlt]at k5;exact(h i tm hi).2 h1 _ (by rw[hu,k5];rfl)};{rw[show Cf c.terms tm=i from by omega]}
   {rintro⟨h1,h2⟩ i tm hi;refine⟨(h1 i tm hi).1,λh3 u hu=>?_⟩;obtain⟨k1,_,k5⟩:=Iv c.terms f.vals i tm aI hl.symm hi h3;cases hx:Bi b tm.letter with|some x=>{rw[hx]at hu;simp at hu;subst hu;rw[hb]at hx;cases hs:Site.find ss tm.letter with|none=>rw[hs]at hx;simp at hx|some s=>rw[hs]at hx;simp at hx;rw[<-hx];exact h2 i tm hi h3 s hs}|none=>rw[hx,k5]at hu;by_cases hlt:Cf c.terms tm<i;{rw[AQ hlt]at hu;simp at hu;rw[<-hu];simpa using(h1 i tm hi).2 h3};{rw[AO hlt]at hu;simp at hu}}
  {rw[AO (λh=>hl h.2)];simp[hl]}
 {rw[AO (λh=>hk h.1)];simp[hk]}
theorem Site.bindT_find(k:Nat)(vs:List Int):∀(ts:List Q0D) (p:Nat) (x:UInt8),(Site.find (Site.bindT k p ts) x)=none/\Dy ts (vs.drop p) x=none\/(∃q,Site.find (Site.bindT k p ts) x=some ⟨x,k,q⟩/\(ts.length<=(vs.drop p).length->Dy ts (vs.drop p) x=some (vs.getD q 0)))\/¬ ts.length<=(vs.drop p).length
 |[],p,x=>.inl ⟨rfl,by simp[Dy]⟩
 |t::ts,p,x=>by
  by_cases hlen:(t::ts).length<=(vs.drop p).length
  ·have hp:p<vs.length:=by simp at hlen;omega
   have hd:vs.drop p=vs[p]::vs.drop (p+1):=CO hp;have jG:ts.length<=(vs.drop (p+1)).length:=by simp at hlen⊢;omega
   unfold Site.bindT;rw[hd];simp only[Dy];by_cases h1:t.sort=1
   ·rw[AQ h1]
    simp only[List.singleton_append,Site.find];by_cases e:t.letter=x
    ·right;left
     refine⟨p,by simp[e],λ_=>?_⟩;rw[AQ ⟨h1,e⟩];simp[hp]
    ·rw[AO e,AO (λk=>e k.2)]
     rcases Site.bindT_find k vs ts (p+1) x with h|⟨q,h2,h3⟩|h
     ·exact .inl h
     ·exact .inr (.inl ⟨q,h2,λ_=>h3 jG⟩)
     ·exact absurd jG h
   ·rw[AO h1,AO (λk=>h1 k.1)]
    simp only[CV];rcases Site.bindT_find k vs ts (p+1) x with h|⟨q,h2,h3⟩|h
    ·exact .inl h
    ·exact .inr (.inl ⟨q,h2,λ_=>h3 jG⟩)
    ·exact absurd jG h
  ·exact .inr (.inr hlen)
theorem Tok.val_app(t:Tok)(g:Ft)(s:Site)(h:s.fact<t.length):Tok.val (t++[g]) s=t.val s:=by unfold Tok.val;rw[CP h]
theorem Site.find_mem:∀(ss:List Site) (x:UInt8) (s:Site),Site.find ss x=some s->s∈ss
 |[],x,s,h=>by simp[Site.find]at h
 |a::ss,x,s,h=>by
  unfold Site.find at h;split at h
  ·cases h;exact BF ..
  ·exact BH _ (Site.find_mem ss x s h)
theorem Q6b.step{ss:List Site}{t:Tok}{b b':Q0X}(hb:Q6b ss t b)(hs:∀s∈ss,s.fact<t.length){c:Q0A}{g:Ft}(hm:Az g.f c b=some b'):Q6b (ss++Site.bindT t.length 0 c.terms) (t++[g]) b':=by intro x;unfold Az at hm;split at hm;{(rename_i hk);rw[Du _ _ _ _ hm x,hb x,Site.find_app];cases hf:Site.find ss x with|some s=>simp only[DM,Option.some_or];rw[Tok.val_app t g s (hs s (Site.find_mem ss x s hf))]|none=>simp only[Option.map_none,Option.none_or];rcases Site.bindT_find t.length g.f.vals c.terms 0 x with ⟨h1,h2⟩|⟨q,h1,h2⟩|h;{rw[h1];simpa using h2};{rw[h1];have:=h2 (by simp[hk.2]);rw[GW]at this;rw[this];simp[Tok.val]};{exact absurd (by simp[hk.2]) h}};{cases hm}
theorem Site.bindT_fact(k:Nat):∀(ts:List Q0D) (p:Nat),∀s∈Site.bindT k p ts,s.fact=k
 |[],p,s,h=>by simp[Site.bindT]at h
 |t::ts,p,s,h=>by
  unfold Site.bindT at h;rcases BA.1 h with h|h
  ·split at h
   ·simp at h;rw[h]
   ·simp at h
  ·exact Site.bindT_fact k ts (p+1) s h
def Tok.nums(t:Tok):List Int:=t.map (λg=>g.id)++List.replicate (4-t.length) 0
def cmpL:List Int->List Int->Int
 |[],[]=>0
 |[],_::_=>-1
 |_::_,[]=>1
 |a::x,b::y=>if a<b then -1 else if b<a then 1 else cmpL x y
def Pp(l:List Int):List Int:=l.mergeSort (λa b=>decide (a<=b))
def Tok.age(t:Tok):List Int:=(Pp t.nums).reverse
def Tok.less(t u:Tok):Bool:=if cmpL t.age u.age=0 then decide (cmpL t.nums u.nums<0)else decide (0<cmpL t.age u.age)
def Hp.swap{α:Type}(l:List α)(i j:Nat):List α:=
 match l[i]?,l[j]? with
 |some a,some b=>(l.set i b).set j a
 |_,_=>l
def Hp.lt{α:Type}(lt:α->α->Bool)(l:List α)(i j:Nat):Bool:=
 match l[i]?,l[j]? with
 |some a,some b=>lt a b
 |_,_=>false
def Hp.up{α:Type}(lt:α->α->Bool)(l:List α)(j:Nat):List α:=
 if h:j=0 then l
 else if Hp.lt lt l j ((j-1) / 2)=true then Hp.up lt (Hp.swap l ((j-1) / 2) j) ((j-1) / 2)else l
 termination_by j
 decreasing_by omega
def Hp.kid{α:Type}(lt:α->α->Bool)(n:Nat)(l:List α)(i:Nat):Nat:=
 if 2*i+2<n/\Hp.lt lt l (2*i+2) (2*i+1)=true then 2*i+2 else 2*i+1
theorem Hp.kid_gt(lt:α->α->Bool)(n:Nat)(l:List α)(i:Nat):i<Hp.kid lt n l i:=by unfold Hp.kid;split<;>omega
theorem Hp.kid_lt(lt:α->α->Bool)(n:Nat)(l:List α)(i:Nat)(h:2*i+1<n):Hp.kid lt n l i<n:=by unfold Hp.kid;split;{rename_i k;exact k.1};{exact h}
def Hp.down{α:Type}(lt:α->α->Bool)(n:Nat)(l:List α)(i:Nat):List α:=
 if _h:2*i+1<n then
  (if Hp.lt lt l (Hp.kid lt n l i) i=true then Hp.down lt n (Hp.swap l i (Hp.kid lt n l i)) (Hp.kid lt n l i)else l)
 else l
 termination_by n-i
 decreasing_by
 have h1:=Hp.kid_gt lt n l i;have h2:=Hp.kid_lt lt n l i _h;omega
def Hp.initF{α:Type}(lt:α->α->Bool):Nat->List α->List α
 |0,l=>l
 |i+1,l=>Hp.initF lt i (Hp.down lt l.length l i)
def Hp.init{α:Type}(lt:α->α->Bool)(l:List α):List α:=Hp.initF lt (l.length / 2) l
def Hp.push{α:Type}(lt:α->α->Bool)(l:List α)(t:α):List α:=Hp.up lt (l++[t]) l.length
theorem S4{α:Type}(a b:α):∀(l:List α) (j:Nat),l[j]?=some b->(b::l.set j a).Perm (a::l)
 |[],j,h=>by simp at h
 |x::l,0,h=>by
  simp at h;subst h;simp only[IQ];exact List.Perm.swap _ _ _
 |x::l,j+1,h=>by
  simp only[FW];have h1:=S4 a b l j (by simpa using h);exact(List.Perm.swap _ _ _).trans ((h1.cons x).trans (List.Perm.swap _ _ _))
theorem I5{α:Type}:∀(l:List α) (i j:Nat) (a b:α),i<j->l[i]?=some a->l[j]?=some b->((l.set i b).set j a).Perm l
 |[],i,j,a,b,_,h,_=>by simp at h
 |x::l,0,0,a,b,h,_,_=>by omega
 |x::l,0,j+1,a,b,_,h1,h2=>by
  simp at h1;subst h1;simp only[IQ,FW];exact S4 x b l j (by simpa using h2)
 |x::l,i+1,0,a,b,h,_,_=>by omega
 |x::l,i+1,j+1,a,b,h,h1,h2=>by
  simp only[FW];exact(I5 l i j a b (by omega) (by simpa using h1) (by simpa using h2)).cons x
theorem Hp.swap_perm(l:List α)(i j:Nat):(Hp.swap l i j).Perm l:=by unfold Hp.swap;split;{(rename_i a b h1 h2);rcases JZ i j with h|h|h;{exact I5 l i j a b h h1 h2};{subst h;rw[h1]at h2;cases h2;(have e:l.set i a=l:=by obtain⟨hi,rfl⟩:=AK.1 h1;exact List.set_getElem_self hi);rw[e,e]};{rw[List.set_comm _ _ (by omega)];exact I5 l j i b a h h2 h1}};{exact DX _}
theorem Hp.up_perm{α:Type}(lt:α->α->Bool)(l:List α)(j:Nat):(Hp.up lt l j).Perm l:=by induction j using Nat.strongRecOn generalizing l with|_ j ih=>unfold Hp.up;split;{exact DX _};{split;{exact(ih ((j-1) / 2) (by omega) _).trans (Hp.swap_perm _ _ _)};{exact DX _}}
theorem Hp.down_perm{α:Type}(lt:α->α->Bool)(n:Nat):∀(m:Nat) (l:List α) (i:Nat),n-i<=m->(Hp.down lt n l i).Perm l
 |0,l,i,h=>by
  unfold Hp.down;rw[dif_neg (by omega)]
 |m+1,l,i,h=>by
  unfold Hp.down;split
  ·rename_i h1
   split
   ·have h2:=Hp.kid_gt lt n l i
    exact(Hp.down_perm lt n m _ _ (by omega)).trans (Hp.swap_perm _ _ _)
   ·exact DX _
  ·exact DX _
theorem Hp.initF_perm{α:Type}(lt:α->α->Bool):∀(i:Nat) (l:List α),(Hp.initF lt i l).Perm l
 |0,_=>DX _
 |i+1,l=>(Hp.initF_perm lt i _).trans (Hp.down_perm lt _ _ l i (AX _))
theorem Hp.init_perm(lt:α->α->Bool)(l:List α):(Hp.init lt l).Perm l:=Hp.initF_perm lt _ l
theorem Hp.push_perm(lt:α->α->Bool)(l:List α)(t:α):(Hp.push lt l t).Perm (l++[t]):=Hp.up_perm lt _ _
theorem Hp.fold_perm{α:Type}(lt:α->α->Bool):∀(ts:List α) (l:List α),(ts.foldl (Hp.push lt) l).Perm (l++ts)
 |[],l=>by simp
 |t::ts,l=>by
  simp only[List.foldl_cons];refine(Hp.fold_perm lt ts _).trans ?_;have h:=(Hp.push_perm lt l t).append_right ts;simpa using h
abbrev arr:=Dk (Hp.push Tok.less)
def En.drop(gone:Tok->Bool)(e:En):En:=⟨e.toks.filter (λt=>!gone t),Hp.init Tok.less (e.wait.filter (λt=>!gone t))⟩
def Ao(f:Ft)(n:Nd)(ns:List Nd)(e:En):Nd×(List Nd×En):=
 if Io n.c f.f=true then
  ({ n with K:=n.K++[f] },if n.c.neg=true then (ns.map (Nd.drop (λt=>Cp n.links t f.f)),e.drop (λt=>Cp n.links t f.f))
   else arr ns e ((n.toks.filter (λt=>Cp n.links t f.f)).map (λt=>t++[f])))
 else (n,(ns,e))
def De(f:Ft):Nat->List Nd->En->List Nd×En
 |0,ns,e=>(ns,e)
 |_+1,[],e=>([],e)
 |k+1,n::ns,e=>((Ao f n ns e).1::(De f k (Ao f n ns e).2.1 (Ao f n ns e).2.2).1,(De f k (Ao f n ns e).2.1 (Ao f n ns e).2.2).2)
theorem Eu(f:Ft)(n:Nd)(ns:List Nd)(e:En):(Ao f n ns e).2.1.length=ns.length:=by unfold Ao;split;{split;{simp};{exact Cv _ _ _ _}};{rfl}
def Inv:List Tok->List Nd->En->Prop
 |B,[],e=>e.toks.Perm B
 |B,n::ns,e=>n.toks.Perm B/\Inv (B.flatMap n.ext) ns e
def reach:List Nd->Tok->List Tok
 |[],t=>[t]
 |n::ns,t=>(n.ext t).flatMap (reach ns)
theorem Inv.toks:∀ {B:List Tok} {ns:List Nd} {e:En},Inv B ns e->e.toks.Perm (B.flatMap (reach ns))
 |B,[],e,h=>by simpa[reach,Inv]using h
 |B,n::ns,e,h=>by
  have:=Inv.toks h.2;rw[List.flatMap_assoc]at this;exact this
theorem Inv.perm:∀ {B B':List Tok} {ns:List Nd} {e:En},Inv B ns e->B.Perm B'->Inv B' ns e
 |_,_,[],_,h,hp=>List.Perm.trans h hp
 |_,_,_::_,_,h,hp=>⟨h.1.trans hp,h.2.perm (hp.flatMap_right _)⟩
theorem Inv.arr:∀ {B:List Tok} {ns:List Nd} {e:En} (X:List Tok),Inv B ns e->Inv (B++X) (arr ns e X).1 (arr ns e X).2
 |B,[],e,X,h=>List.Perm.append_right X h
 |B,n::ns,e,X,h=>by
  refine⟨h.1.append_right X,?_⟩;have:=Inv.arr (X.flatMap n.ext) h.2;rw[<-CM]at this;exact this
theorem Zx{ls:List Lnk}{t:Tok}{g:Ft}{f:Q0E}(h:∀l∈ls,l.at'.fact<t.length):Cp ls (t++[g]) f=Cp ls t f:=by unfold Cp;rw[FH,KF,KF];constructor;{intro k l hl;rw[<-Tok.val_app t g l.at' (h l hl)];exact k l hl};{intro k l hl;rw[Tok.val_app t g l.at' (h l hl)];exact k l hl}
theorem Nd.ext_mem{n:Nd}{t u:Tok}(h:u∈n.ext t):u=t\/∃g∈n.K,u=t++[g]:=by unfold Nd.ext at h;split at h;{split at h;{simp at h};{simp at h;exact .inl h}};{obtain⟨g,hg,rfl⟩:=CC.1 h;exact .inr ⟨g,(BI.1 hg).1,rfl⟩}
theorem Nd.ext_len{n:Nd}{t u:Tok}(h:u∈n.ext t):u.length=t.length+(if n.c.neg=true then 0 else 1):=by unfold Nd.ext at h;split at h;{(rename_i hn);rw[AQ hn];split at h;{simp at h};{simp at h;rw[h];rfl}};{(rename_i hn);rw[AO hn];obtain⟨g,hg,rfl⟩:=CC.1 h;simp}
theorem Dl{α β:Type}(p:α->Bool)(q:β->Bool)(g:α->List β):∀(B:List α),(∀t∈B,∀u∈g t,q u=p t)->(B.flatMap g).filter q=(B.filter p).flatMap g
 |[],_=>rfl
 |t::B,h=>by
  have ih:=Dl p q g B (λx hx=>h x (BH _ hx));rw[BG,DJ,ih];by_cases e:p t=true
  ·have h1:(g t).filter q=g t:=IG.2 (λu hu=>by rw[h t (BF ..) u hu];exact e)
   simp[h1,e]
  ·have e2:p t=false:=by simpa using e
   have h1:(g t).filter q=[]:=KX.2 (λu hu=>by rw[h t (BF ..) u hu,e2];simp);simp[h1,e2]
theorem Inv.drop{ls:List Lnk}{f:Q0E}{k:Nat}(hk:∀l∈ls,l.at'.fact<k):∀ {B:List Tok} {ns:List Nd} {e:En},Inv B ns e->(∀t∈B,k<=t.length)->
  Inv (B.filter (λt=>!Cp ls t f)) (ns.map (Nd.drop (λt=>Cp ls t f))) (e.drop (λt=>Cp ls t f))
 |B,[],e,h,_=>KE _ h
 |B,n::ns,e,h,hB=>by
  refine⟨h.1.filter _,?_⟩
  have hB2:∀t∈B.flatMap n.ext,k<=t.length:=by
   intro t ht;obtain⟨u,hu,hv⟩:=CU.1 ht;have:=Nd.ext_len hv;have:=hB u hu;omega
  have:=Inv.drop (f:=f) hk h.2 hB2;rw[Dl (λt=>!Cp ls t f)]at this
  ·exact this
  ·intro t ht u hu
   rcases Nd.ext_mem hu with rfl|⟨g,_,rfl⟩
   ·rfl
   ·rw[Zx (λl hl=>AV (hk l hl) (hB t ht))]
theorem Ed{α β:Type}(a b:α->List β):∀(B:List α),(B.flatMap (λt=>a t++b t)).Perm (B.flatMap a++B.flatMap b)
 |[]=>by simp
 |t::B=>by
  simp only[BG];have ih:=Ed a b B;have h1:((a t++b t)++List.flatMap (λt=>a t++b t) B).Perm ((a t++b t)++(B.flatMap a++B.flatMap b)):=ih.append_left _;refine h1.trans ?_;rw[BQ,BQ];refine IA _ ?_;rw[<-BQ,<-BQ];exact List.perm_append_comm.append_right _
theorem I3{α β:Type}(p:α->Bool)(g:α->β):∀(B:List α),B.flatMap (λt=>if p t=true then [g t]else [])=(B.filter p).map g
 |[]=>rfl
 |t::B=>by
  rw[BG,I3 p g B];by_cases h:p t=true
  ·simp[h]
  ·simp[h]
theorem Zu(n:Nd)(f:Ft)(hn:n.c.neg=false)(t:Tok):Nd.ext { n with K:=n.K++[f] } t=n.ext t++(if Cp n.links t f.f=true then [t++[f]]else []):=by unfold Nd.ext;simp only[hn,CB,if_false,DJ,BZ];congr 1;by_cases h:Cp n.links t f.f=true;{simp[h]};{simp[h]}
theorem Zt(n:Nd)(f:Ft)(hn:n.c.neg=true)(t:Tok):Nd.ext { n with K:=n.K++[f] } t=if Cp n.links t f.f=true then []else n.ext t:=by unfold Nd.ext;simp only[hn,if_true,FI];by_cases h:Cp n.links t f.f=true;{simp[h]};{simp[h]}
theorem Hj{α β:Type}(p:α->Bool)(g:α->List β):∀(B:List α),B.flatMap (λt=>if p t=true then []else g t)=(B.filter (λt=>!p t)).flatMap g
 |[]=>rfl
 |t::B=>by
  rw[BG,Hj p g B];by_cases h:p t=true
  ·simp[h]
  ·simp[h]
theorem G9(n:Nd)(hn:n.c.neg=true)(p:Tok->Bool)(B:List Tok):(B.filter p).flatMap n.ext=(B.flatMap n.ext).filter p:=by symm;refine Dl p p n.ext B ?_;intro t _ u hu;unfold Nd.ext at hu;rw[AQ hn]at hu;split at hu;{simp at hu};{simp at hu;rw[hu]}
theorem Qq{f:Ft}{n:Nd}{ns:List Nd}{e:En}{B:List Tok}(h:Inv B (n::ns) e)(hk:∀l∈n.links,l.at'.fact<k)(hB:∀t∈B,t.length=k):Inv B ((Ao f n ns e).1::(Ao f n ns e).2.1) (Ao f n ns e).2.2:=by unfold Ao;by_cases hf:Io n.c f.f=true;{rw[AQ hf];by_cases hn:n.c.neg=true;{simp only[hn,if_true];refine⟨h.1,?_⟩;(have h2:∀t∈B.flatMap n.ext,k<=t.length:=by intro t ht;obtain⟨u,hu,hv⟩:=CU.1 ht;have:=Nd.ext_len hv;have:=hB u hu;omega);have:=Inv.drop (f:=f.f) hk h.2 h2;(have e:B.flatMap (Nd.ext { n with K:=n.K++[f] })=(B.flatMap n.ext).filter (λt=>!Cp n.links t f.f):=by rw[show Nd.ext { n with K:=n.K++[f] }=λt=>if Cp n.links t f.f=true then []else n.ext t from funext (Zt n f hn),Hj,G9 n hn]);rw[e];exact this};{(have fB:n.c.neg=false:=by simpa using hn);simp only[fB,CB,if_false];refine⟨h.1,?_⟩;have h3:=Inv.arr ((n.toks.filter (λt=>Cp n.links t f.f)).map (λt=>t++[f])) h.2;refine h3.perm ?_;rw[show Nd.ext { n with K:=n.K++[f] }=λt=>n.ext t++(if Cp n.links t f.f=true then [t++[f]]else []) from funext (Zu n f fB)];refine List.Perm.symm ((Ed _ _ B).trans ?_);rw[I3];exact IA _ (((h.1.symm).filter _).map _)}};{rw[AO hf];exact h}
def Good(F:List Ft):List Site->Nat->List Nd->List Q0A->Prop
 |_,_,[],[]=>True
 |ss,k,n::ns,c::cs=>n.c=c/\n.links=Lnk.of ss 0 c.terms/\n.K=F.filter (λg=>Io c g.f)/\Good F (if c.neg=true then ss else ss++Site.bindT k 0 c.terms) (if c.neg=true then k else k+1) ns cs
 |_,_,_,_=>False
theorem Good.len{F:List Ft}:∀ {ss:List Site} {k:Nat} {ns:List Nd} {cs:List Q0A},Good F ss k ns cs->ns.length=cs.length
 |_,_,[],[],_=>rfl
 |_,_,[],_::_,h=>h.elim
 |_,_,_::_,[],h=>h.elim
 |_,_,_::_,_::_,h=>by simp[h.2.2.2.len]
theorem Lnk.of_fact(ss:List Site)(k:Nat)(h:∀s∈ss,s.fact<k):∀(ts:List Q0D) (p:Nat),∀l∈Lnk.of ss p ts,l.at'.fact<k
 |[],p,l,hl=>by simp[Lnk.of]at hl
 |t::ts,p,l,hl=>by
  unfold Lnk.of at hl;rcases BA.1 hl with hl|hl
  ·split at hl
   ·split at hl
    ·simp at hl
    ·rename_i s hs
     simp at hl;rw[hl];exact h s (Site.find_mem ss _ s hs)
   ·simp at hl
  ·exact Lnk.of_fact ss k h ts (p+1) l hl
theorem Mm{ss:List Site}(h:∀s∈ss,s.fact<k)(c:Q0A):∀s∈(if c.neg=true then ss else ss++Site.bindT k 0 c.terms),s.fact<(if c.neg=true then k else k+1):=by split;{exact h};{intro s hs;rcases BA.1 hs with hs|hs;{have:=h s hs;omega};{have:=Site.bindT_fact k c.terms 0 s hs;omega}}
theorem Good.same{F:List Ft}:∀ {ss:List Site} {k:Nat} {ns iV:List Nd} {cs:List Q0A},Good F ss k ns cs->ns.map (λn=>(n.c,n.links,n.K))=iV.map (λn=>(n.c,n.links,n.K))->Good F ss k iV cs
 |_,_,[],[],[],_,_=>trivial
 |_,_,[],_::_,_,_,h=>by simp at h
 |_,_,_::_,[],_,_,h=>by simp at h
 |_,_,[],[],_::_,h,_=>h.elim
 |_,_,_::_,_::_,[],h,_=>h.elim
 |_,_,n::ns,m::iV,c::cs,h,he=>by
  simp only[DF,GN,CE]at he;obtain⟨⟨e1,e2,e3⟩,e4⟩:=he;exact⟨by rw[<-e1];exact h.1,by rw[<-e2];exact h.2.1,by rw[<-e3];exact h.2.2.1,h.2.2.2.same e4⟩
theorem Hx:∀(ns:List Nd) (e:En) (X:List Tok),ns.map (λn=>(n.c,n.links,n.K))=(arr ns e X).1.map (λn=>(n.c,n.links,n.K))
 |[],e,X=>rfl
 |n::ns,e,X=>by
  simp only[arr,Dk,DF];rw[Hx ns e]
theorem Jg(f:Ft)(n:Nd)(ns:List Nd)(e:En):ns.map (λn=>(n.c,n.links,n.K))=(Ao f n ns e).2.1.map (λn=>(n.c,n.links,n.K)):=by unfold Ao;split;{split;{simp[Nd.drop,List.map_map,Function.comp_def]};{exact Hx _ _ _}};{rfl}
theorem O2{F:List Ft}(f:Ft):∀ {ss:List Site} {k:Nat} {ns:List Nd} {cs:List Q0A} {B:List Tok} {e:En},Good F ss k ns cs->(∀s∈ss,s.fact<k)->(∀t∈B,t.length=k)->Inv B ns e->
  Good (F++[f]) ss k (De f ns.length ns e).1 cs/\Inv B (De f ns.length ns e).1 (De f ns.length ns e).2
 |_,_,[],[],_,_,h,_,_,hi=>⟨h,hi⟩
 |_,_,[],_::_,_,_,h,_,_,_=>h.elim
 |_,_,_::_,[],_,_,h,_,_,_=>h.elim
 |ss,k,n::ns,c::cs,B,e,h,hs,hB,hi=>by
  obtain⟨h1,h2,h3,h4⟩:=h;have hk:∀l∈n.links,l.at'.fact<k:=by rw[h2];exact Lnk.of_fact ss k hs c.terms 0
  have pn:=Qq (f:=f) hi hk hB;have hg2:=h4.same (Jg f n ns e);have hl:=Eu f n ns e
  have hc:(Ao f n ns e).1.c=c/\(Ao f n ns e).1.links=Lnk.of ss 0 c.terms/\(Ao f n ns e).1.K=(F++[f]).filter (λg=>Io c g.f):=by
   unfold Ao;by_cases hf:Io n.c f.f=true
   ·rw[AQ hf]
    rw[h1]at hf;exact⟨h1,h2,by simp[h3,hf]⟩
   ·rw[AO hf]
    rw[h1]at hf;exact⟨h1,h2,by simp[h3,hf]⟩
  have hB2:∀t∈B.flatMap (Ao f n ns e).1.ext,t.length=(if c.neg=true then k else k+1):=by
   intro t ht;obtain⟨u,hu,hv⟩:=CU.1 ht;have e1:=Nd.ext_len hv;rw[hc.1]at e1;rw[e1,hB u hu];split<;>rfl
  have ih:=O2 f (ns:=(Ao f n ns e).2.1) hg2 (Mm hs c) hB2 pn.2;rw[hl]at ih;exact⟨⟨hc.1,hc.2.1,hc.2.2,ih.1⟩,pn.1,ih.2⟩
theorem Good.outs{F:List Ft}:∀ {ss:List Site} {ns:List Nd} {cs:List Q0A} {t:Tok} {b:Q0X},Good F ss t.length ns cs->(∀s∈ss,s.fact<t.length)->(∀c∈cs,∀u∈c.terms,Es u)->Q6b ss t b->
  (reach ns t).map (List.map (λg=>g.id))=As (F.map (λg=>(g.id,g.f))) cs b (t.map (λg=>g.id))
 |_,[],[],t,b,_,_,_,_=>rfl
 |_,[],_::_,_,_,h,_,_,_=>h.elim
 |_,_::_,[],_,_,h,_,_,_=>h.elim
 |ss,n::ns,c::cs,t,b,h,hs,aI,hb=>by
  obtain⟨h1,h2,h3,h4⟩:=h;have hm:=λf=>Xe (aI c (BF ..)) hb f
  have ax:∀c∈cs,∀u∈c.terms,Es u:=λc hc=>aI c (BH _ hc)
  unfold reach As Nd.ext;rw[h1,h2,h3];by_cases hn:c.neg=true
  ·simp only[hn,if_true]at h4⊢
   have e:(F.map (λg=>(g.id,g.f))).any (λp=>(Az p.2 c b).isSome)=(F.filter (λg=>Io c g.f)).any (λg=>Cp (Lnk.of ss 0 c.terms) t g.f):=by
    rw[List.any_map,List.any_filter];congr 1
    funext g;simp[hm]
   rw[e];by_cases ha:(F.filter (λg=>Io c g.f)).any (λg=>Cp (Lnk.of ss 0 c.terms) t g.f)=true
   ·rw[AQ ha,AQ ha];simp
   ·rw[AO ha,AO ha]
    simp only[BG,FR,BM];exact Good.outs h4 hs ax hb
  ·have fB:c.neg=false:=by simpa using hn
   simp only[fB,CB,if_false]at h4⊢;rw[GR,GF,IZ,GF]
   have:∀(G:List Ft),(G.filter (λa=>Cp (Lnk.of ss 0 c.terms) t a.f&&Io c a.f)).flatMap (λa=>((reach ns (t++[a]))).map (List.map (λg=>g.id)))=G.flatMap (λa=>match Az a.f c b with|none=>[]|some b'=>As (F.map (λg=>(g.id,g.f))) cs b' (t.map (λg=>g.id)++[a.id])):=by
    intro G
    induction G with
    |nil=>rfl
    |cons a G ih=>
     rw[BG,<-ih,IY];have TI:=hm a.f;cases hx:Az a.f c b with
     |none=>
      rw[hx]at TI
      have:¬ ((Cp (Lnk.of ss 0 c.terms) t a.f&&Io c a.f)=true):=by
       rw[JP,<-TI];simp
      rw[AO this];simp
     |some b'=>
      rw[hx]at TI
      have:(Cp (Lnk.of ss 0 c.terms) t a.f&&Io c a.f)=true:=by
       rw[JP,<-TI];rfl
      rw[AQ this,BG];congr 1
      have hl:(t++[a]).length=t.length+1:=by simp
      have hs2:=Mm hs c;simp only[fB,CB,if_false]at hs2;have:=Good.outs (t:=t++[a]) (b:=b') (by rw[hl];exact h4) (by rw[hl];exact hs2) ax (hb.step hs hx);rw[this];simp
   exact this F
def Tok.has(f:Ft)(t:Tok):Bool:=t.any (λg=>g.blk==f.blk)
def Nd.less(f:Ft)(n:Nd):Nd:={ n with K:=n.K.filter (λg=>!(g.blk==f.blk)) }
def Ay(f:Ft)(n:Nd)(ns:List Nd)(e:En):Nd×(List Nd×En):=
 if n.K.any (λg=>g.blk==f.blk)=true then
  (n.less f,if n.c.neg=true then arr ns e (n.toks.filter (λt=>Cp n.links t f.f && !(n.less f).K.any (λg=>Cp n.links t g.f)))else (ns,e))
 else (n,(ns,e))
def Ca(f:Ft):List Nd->En->List Nd×En
 |[],e=>([],e)
 |n::ns,e=>((Ay f n (Ca f ns e).1 (Ca f ns e).2).1::(Ay f n (Ca f ns e).1 (Ca f ns e).2).2.1,(Ay f n (Ca f ns e).1 (Ca f ns e).2).2.2)
def Ud(f:Ft)(ns:List Nd)(e:En):List Nd×En:=Ca f (ns.map (Nd.drop (Tok.has f))) (e.drop (Tok.has f))
def Nd.half(f:Ft)(n:Nd)(t:Tok):List Tok:=if n.c.neg=true then n.ext t else (n.less f).ext t
def Q6u(f:Ft):List Tok->List Nd->En->Prop
 |B,[],e=>e.toks.Perm B
 |B,n::ns,e=>n.toks.Perm B/\Q6u f (B.flatMap (n.half f)) ns e
theorem Ls{α β:Type}(q:β->Bool)(g:α->List β)(B:List α):(B.flatMap g).filter q=B.flatMap (λt=>(g t).filter q):=by induction B with|nil=>rfl|cons t B ih=>rw[BG,BG,DJ,ih]
theorem Qw(f:Ft)(n:Nd)(B:List Tok):(B.flatMap n.ext).filter (λt=>!Tok.has f t)=(B.filter (λt=>!Tok.has f t)).flatMap (n.half f):=by by_cases hn:n.c.neg=true;{rw[<-G9 n hn];(have:n.half f=n.ext:=by funext t;unfold Nd.half;rw[AQ hn]);rw[this]};{(have fB:n.c.neg=false:=by simpa using hn);rw[Ls,<-Hj];congr 1;funext t;unfold Nd.half;rw[AO hn];unfold Nd.ext Nd.less;simp only[fB,CB,if_false];rw[KI];by_cases ht:Tok.has f t=true;{rw[AQ ht];simp only[List.map_eq_nil_iff,KX];intro g _;simp only[Function.comp_apply,Tok.has,FI,EP];unfold Tok.has at ht;rw[ht];simp};{rw[AO ht];(have gH:Tok.has f t=false:=by simpa using ht);congr 1;rw[GR,GR];congr 1;funext g;unfold Tok.has at gH;simp only[Function.comp_apply,Tok.has,FI,gH,FA,GM,KW,IW];rw[JP]}}
theorem Q6u.of(f:Ft):∀ {B:List Tok} {ns:List Nd} {e:En},Inv B ns e->Q6u f (B.filter (λt=>!Tok.has f t)) (ns.map (Nd.drop (Tok.has f))) (e.drop (Tok.has f))
 |B,[],e,h=>KE _ h
 |B,n::ns,e,h=>by
  refine⟨h.1.filter _,?_⟩;have:=Q6u.of f h.2;rw[Qw]at this;exact this
theorem Zv(f:Ft)(n:Nd)(hn:n.c.neg=true)(hf:∃g∈n.K,g.blk=f.blk)(hu:∀g∈n.K,g.blk=f.blk->g.f=f.f)(t:Tok):(n.less f).ext t=n.ext t++(if (Cp n.links t f.f && !(n.less f).K.any (λg=>Cp n.links t g.f))=true then [t]else []):=by
 have ha:n.K.any (λg=>Cp n.links t g.f)=(Cp n.links t f.f||(n.less f).K.any (λg=>Cp n.links t g.f)):=by rw[FH,Bool.or_eq_true,ED,ED];constructor;{rintro⟨g,hg,h⟩;by_cases e:g.blk=f.blk;{left;rw[<-hu g hg e];exact h};{right;exact⟨g,BI.2 ⟨hg,by simpa using e⟩,h⟩}};{rintro(h|⟨g,hg,h⟩);{obtain⟨g,hg,e⟩:=hf;exact⟨g,hg,by rw[hu g hg e];exact h⟩};{exact⟨g,(BI.1 hg).1,h⟩}}
 have e1:(n.less f).ext t=if (n.less f).K.any (λg=>Cp n.links t g.f)=true then []else [t]:=by unfold Nd.ext;rw[AQ (by exact hn)];rfl
 rw[e1];unfold Nd.ext;rw[AQ hn,ha];cases h1:Cp n.links t f.f<;>cases h2:(n.less f).K.any (λg=>Cp n.links t g.f)<;>simp
theorem Xb(f:Ft)(n:Nd)(h:¬ n.K.any (λg=>g.blk==f.blk)=true):n.less f=n:=by
 unfold Nd.less;have:n.K.filter (λg=>!(g.blk==f.blk))=n.K:=by rw[IG];intro g hg;simp only[EP,beq_eq_false_iff_ne,ne_eq];intro e;exact h (ED.2 ⟨g,hg,by simpa using e⟩)
 rw[this]
theorem Qt{f:Ft}{n:Nd}{ns:List Nd}{e:En}{B:List Tok}(h1:n.toks.Perm B)(h2:Inv (B.flatMap (n.half f)) ns e)(hu:∀g∈n.K,g.blk=f.blk->g.f=f.f):Inv B ((Ay f n ns e).1::(Ay f n ns e).2.1) (Ay f n ns e).2.2:=by unfold Ay;by_cases hk:n.K.any (λg=>g.blk==f.blk)=true;{rw[AQ hk];by_cases hn:n.c.neg=true;{simp only[hn,if_true];refine⟨h1,?_⟩;(have hx:∃g∈n.K,g.blk=f.blk:=by obtain⟨g,hg,h⟩:=ED.1 hk;exact⟨g,hg,by simpa using h⟩);(have e1:n.half f=n.ext:=by funext t;unfold Nd.half;rw[AQ hn]);rw[e1]at h2;refine(Inv.arr _ h2).perm ?_;rw[show (n.less f).ext=λt=>n.ext t++(if (Cp n.links t f.f && !(n.less f).K.any (λg=>Cp n.links t g.f))=true then [t]else []) from funext (Zv f n hn hx hu)];refine List.Perm.symm ((Ed _ _ B).trans ?_);rw[I3];simp only[List.map_id'];exact IA _ ((h1.symm).filter _)};{(have fB:n.c.neg=false:=by simpa using hn);(simp only[fB,CB,if_false];refine⟨h1,?_⟩;have e1:n.half f=(n.less f).ext:=by funext t;unfold Nd.half;rw[AO hn]);rw[e1]at h2;exact h2}};{rw[AO hk];(refine⟨h1,?_⟩;have e1:n.half f=n.ext:=by funext t;unfold Nd.half;rw[Xb f n hk];simp);rw[e1]at h2;exact h2}
theorem Mb{f:Ft}:∀ {B:List Tok} {ns:List Nd} {e:En},Q6u f B ns e->(∀n∈ns,∀g∈n.K,g.blk=f.blk->g.f=f.f)->Inv B (Ca f ns e).1 (Ca f ns e).2
 |_,[],_,h,_=>h
 |_,n::_,_,h,hu=>Qt h.1 (Mb h.2 (λm hm=>hu m (BH _ hm))) (hu n (BF ..))
theorem Jh(f:Ft)(n:Nd)(ns:List Nd)(e:En):ns.map (λn=>(n.c,n.links,n.K))=(Ay f n ns e).2.1.map (λn=>(n.c,n.links,n.K)):=by unfold Ay;split;{split;{exact Hx _ _ _};{rfl}};{rfl}
theorem I0(f:Ft)(n:Nd)(ns:List Nd)(e:En):(Ay f n ns e).1=n.less f:=by unfold Ay;split;{rfl};{rename_i h;exact(Xb f n h).symm}
theorem K4{F:List Ft}{f:Ft}:∀ {ss:List Site} {k:Nat} {ns:List Nd} {cs:List Q0A} {e:En},Good F ss k ns cs->Good (F.filter (λg=>!(g.blk==f.blk))) ss k (Ca f ns e).1 cs
 |_,_,[],[],_,h=>h
 |_,_,[],_::_,_,h=>h.elim
 |_,_,_::_,[],_,h=>h.elim
 |ss,k,n::ns,c::cs,e,h=>by
  obtain⟨h1,h2,h3,h4⟩:=h;have ih:=K4 (f:=f) (e:=e) h4;have ih2:=ih.same (Jh f n (Ca f ns e).1 (Ca f ns e).2);refine⟨?_,?_,?_,ih2⟩
  ·rw[I0];exact h1
  ·rw[I0];exact h2
  ·rw[I0]
   show n.K.filter _=_
   rw[h3,GR,GR];congr 1
   funext g;rw[JP]
theorem Q18{F:List Ft}{f:Ft}{ss:List Site}{ns:List Nd}{cs:List Q0A}{B:List Tok}{e:En}(hg:Good F ss k ns cs)(hu:∀g∈F,g.blk=f.blk->g.f=f.f)(hi:Inv B ns e)(hB:∀t∈B,Tok.has f t=false):Good (F.filter (λg=>!(g.blk==f.blk))) ss k (Ud f ns e).1 cs/\Inv B (Ud f ns e).1 (Ud f ns e).2:=by
 have hg2:Good F ss k (ns.map (Nd.drop (Tok.has f))) cs:=hg.same (by simp[Nd.drop,List.map_map,Function.comp_def]);refine⟨K4 hg2,?_⟩;have h:=Q6u.of f hi;rw[IG.2 (λt ht=>by rw[hB t ht];rfl)]at h;refine Mb h ?_;have:∀ {ss:List Site} {k:Nat} {ns:List Nd} {cs:List Q0A},Good F ss k ns cs->∀n∈ns,∀g∈n.K,g∈F:=by intro ss k ns;induction ns generalizing ss k with|nil=>{intro cs _ n hn;simp at hn}|cons m ns ih=>intro cs hg n hn g OA;cases cs with|nil=>exact hg.elim|cons c cs=>obtain⟨_,_,h3,h4⟩:=hg;rcases CQ.1 hn with rfl|hn;{rw[h3]at OA;exact(BI.1 OA).1};{exact ih h4 n hn g OA}
 exact λn hn g OA=>hu g (this hg2 n hn g OA)
structure Hp.Ord{α:Type}(lt:α->α->Bool):Prop where
 asym:∀a b,lt a b=true->lt b a=false
 trans:∀a b c,lt b a=false->lt c b=false->lt c a=false
def Hp.From{α:Type}(lt:α->α->Bool)(n k:Nat)(l:List α):Prop:=∀j,0<j->j<n->k<=(j-1) / 2->∀a b,l[j]?=some a->l[(j-1) / 2]?=some b->lt a b=false
theorem Hp.swap_get(l:List α)(i j k:Nat)(hi:i<l.length)(hj:j<l.length):(Hp.swap l i j)[k]?=if k=j then l[i]? else if k=i then l[j]? else l[k]?:=by unfold Hp.swap;rw[AB hi,AB hj];simp only;by_cases h1:k=j;{subst h1;rw[AQ rfl,EE (by simpa using hj)]};{rw[AO h1,EO (by omega)];by_cases h2:k=i;{subst h2;rw[AQ rfl,EE hi]};{rw[AO h2,EO (by omega)]}}
theorem Hp.swap_len(l:List α)(i j:Nat):(Hp.swap l i j).length=l.length:=(Hp.swap_perm l i j).length_eq
theorem Hp.lt_get{lt:α->α->Bool}{l:List α}{a b:α}(h1:l[i]?=some a)(h2:l[j]?=some b):Hp.lt lt l i j=lt a b:=by unfold Hp.lt;rw[h1,h2]
theorem Ib{l:List α}(h:i<l.length):∃a,l[i]?=some a:=⟨l[i],AB h⟩
theorem Hp.down_ok{α:Type}{lt:α->α->Bool}(ho:Hp.Ord lt)(n k:Nat):∀(m:Nat) (l:List α) (i:Nat),n-i<=m->n<=l.length->k<=i->
  (∀j,0<j->j<n->k<=(j-1) / 2->(j-1) / 2≠i->∀a b,l[j]?=some a->l[(j-1) / 2]?=some b->lt a b=false)->
  (0<i->k<=(i-1) / 2->∀j,0<j->j<n->(j-1) / 2=i->∀a b,l[j]?=some a->l[(i-1) / 2]?=some b->lt a b=false)->
  Hp.From lt n k (Hp.down lt n l i)
 |0,l,i,hm,hn,hk,h1,h2=>by
  unfold Hp.down;rw[dif_neg (by omega)];intro j a b c;exact h1 j a b c (by omega)
 |m+1,l,i,hm,hn,hk,h1,h2=>by
  unfold Hp.down;by_cases hi:2*i+1<n
  ·rw[dif_pos hi]
   have hc1:=Hp.kid_gt lt n l i;have hc2:=Hp.kid_lt lt n l i hi;obtain⟨c,hc⟩:∃c,Hp.kid lt n l i=c:=⟨_,rfl⟩
   have xw:(c-1) / 2=i/\0<c:=by
    rw[<-hc];unfold Hp.kid;split<;>omega
   rw[hc]at hc1 hc2⊢;obtain⟨x,hx⟩:=Ib (l:=l) (i:=i) (by omega);obtain⟨y,hy⟩:=Ib (l:=l) (i:=c) (by omega)
   have MS:∀d,0<d->d<n->(d-1) / 2=i->d≠c->∀z,l[d]?=some z->lt z y=false:=by
    intro d zR YP cu hdc z hz;unfold Hp.kid at hc;by_cases hq:2*i+2<n/\Hp.lt lt l (2*i+2) (2*i+1)=true
    ·rw[AQ hq]at hc
     have hd:d=2*i+1:=by omega
     subst hd;subst hc;rw[Hp.lt_get hy hz]at hq;exact ho.asym _ _ hq.2
    ·rw[AO hq]at hc
     have hd:d=2*i+2:=by omega
     subst hd;subst hc;rw[Hp.lt_get hz hy]at hq;have:¬ lt z y=true:=λh=>hq ⟨YP,h⟩
     simpa using this
   by_cases hl:Hp.lt lt l c i=true
   ·rw[AQ hl]
    rw[Hp.lt_get hy hx]at hl;have hg:=λq=>Hp.swap_get l i c q (by omega) (by omega)
    refine Hp.down_ok ho n k m _ c (by omega) (by rw[Hp.swap_len];exact hn) (by omega) ?_ ?_
    ·intro j hj0 hjn hjk TP a b ha hb
     rw[hg]at ha hb;rw[AO TP]at hb;by_cases e1:j=c
     ·subst e1
      rw[AQ rfl,hx]at ha;rw[AQ xw.1,hy]at hb;cases ha
      cases hb
      exact ho.asym _ _ hl
     ·rw[AO e1]at ha
      by_cases e2:(j-1) / 2=i
      ·rw[AQ e2,hy]at hb
       cases hb
       rw[AO (by omega)]at ha;exact MS j hj0 hjn e2 e1 a ha
      ·rw[AO e2]at hb
       by_cases e3:j=i
       ·subst e3
        rw[AQ rfl,hy]at ha;cases ha
        exact h2 hj0 hjk c xw.2 hc2 xw.1 _ _ hy hb
       ·rw[AO e3]at ha
        exact h1 j hj0 hjn hjk e2 a b ha hb
    ·intro _ hck j hj0 hjn TP a b ha hb
     rw[hg]at ha hb;rw[AO (by omega),AO (by omega)]at ha;rw[AO (by omega),AQ xw.1,hy]at hb;cases hb
     exact h1 j hj0 hjn (by omega) (by omega) a y ha (by rw[TP];exact hy)
   ·rw[AO hl]
    rw[Hp.lt_get hy hx]at hl;have hl2:lt y x=false:=by simpa using hl
    intro j hj0 hjn hjk a b ha hb;by_cases e2:(j-1) / 2=i
    ·rw[e2,hx]at hb
     cases hb
     by_cases e1:j=c
     ·subst e1
      rw[hy]at ha;cases ha
      exact hl2
     ·exact ho.trans _ _ _ hl2 (MS j hj0 hjn e2 e1 a ha)
    ·exact h1 j hj0 hjn hjk e2 a b ha hb
  ·rw[dif_neg hi]
   intro j hj0 hjn hjk a b ha hb;exact h1 j hj0 hjn hjk (by omega) a b ha hb
theorem Hp.up_ok{α:Type}{lt:α->α->Bool}(ho:Hp.Ord lt)(l:List α)(i:Nat)(hi:i<l.length) (h1:∀j,0<j->j<l.length->j≠i->∀a b,l[j]?=some a->l[(j-1) / 2]?=some b->lt a b=false) (h2:0<i->∀j,0<j->j<l.length->(j-1) / 2=i->∀a b,l[j]?=some a->l[(i-1) / 2]?=some b->lt a b=false):Hp.From lt l.length 0 (Hp.up lt l i):=by induction i using Nat.strongRecOn generalizing l with|_ i ih=>unfold Hp.up;by_cases h0:i=0;{rw[dif_pos h0];intro j hj0 hjn _ a b ha hb;exact h1 j hj0 hjn (by omega) a b ha hb};{rw[dif_neg h0];(obtain⟨p,hp⟩:∃p,(i-1) / 2=p:=⟨_,rfl⟩);(have hpi:p<i:=by omega);rw[hp]at h2⊢;obtain⟨x,hx⟩:=Ib (l:=l) (i:=i) hi;obtain⟨y,hy⟩:=Ib (l:=l) (i:=p) (by omega);by_cases hl:Hp.lt lt l i p=true;{rw[AQ hl];rw[Hp.lt_get hx hy]at hl;have hg:=λq=>Hp.swap_get l p i q (by omega) (by omega);have hlen:=Hp.swap_len l p i;have:=ih p hpi (Hp.swap l p i) (by rw[hlen];omega) ?_ ?_;{rw[hlen]at this;exact this};{intro j hj0 hjn TN a b ha hb;rw[hlen]at hjn;rw[hg]at ha hb;rw[AO TN]at ha;by_cases e1:j=i;{subst e1;rw[AQ rfl,hy]at ha;rw[hp,AO (by omega),AQ rfl,hx]at hb;cases ha;cases hb;exact ho.asym _ _ hl};{rw[AO e1]at ha;by_cases e2:(j-1) / 2=i;{rw[AQ e2,hy]at hb;cases hb;exact h2 (by omega) j hj0 hjn e2 a y ha hy};{rw[AO e2]at hb;by_cases e3:(j-1) / 2=p;{rw[AQ e3,hx]at hb;cases hb;have k1:=h1 j hj0 hjn e1 a y ha (by rw[e3];exact hy);exact ho.trans _ _ _ (ho.asym _ _ hl) k1};{rw[AO e3]at hb;exact h1 j hj0 hjn e1 a b ha hb}}}};{intro b6 j hj0 hjn TN a b ha hb;rw[hlen]at hjn;rw[hg]at ha hb;rw[AO (by omega),AO (by omega)]at hb;have kp:=h1 p b6 (by omega) (by omega) y b hy hb;by_cases e1:j=i;{subst e1;rw[AQ rfl,hy]at ha;cases ha;exact kp};{rw[AO e1,AO (by omega)]at ha;have k1:=h1 j hj0 hjn e1 a y ha (by rw[TN];exact hy);exact ho.trans _ _ _ kp k1}}};{rw[AO hl];rw[Hp.lt_get hx hy]at hl;intro j hj0 hjn _ a b ha hb;by_cases e1:j=i;{subst e1;rw[hx]at ha;rw[hp,hy]at hb;cases ha;cases hb;simpa using hl};{exact h1 j hj0 hjn e1 a b ha hb}}}
def Hp.Is{α:Type}(lt:α->α->Bool)(l:List α):Prop:=Hp.From lt l.length 0 l
theorem Hp.push_ok{lt:α->α->Bool}(ho:Hp.Ord lt){l:List α}(h:Hp.Is lt l)(t:α):Hp.Is lt (Hp.push lt l t):=by have e:(Hp.push lt l t).length=(l++[t]).length:=(Hp.up_perm lt _ _).length_eq;unfold Hp.Is;rw[e];refine Hp.up_ok ho (l++[t]) l.length (by simp) ?_ ?_;{intro j hj0 hjn hne a b ha hb;(have hj:j<l.length:=by simp at hjn;omega);rw[CP hj]at ha;rw[CP (by omega)]at hb;exact h j hj0 hj (AG _) a b ha hb};{intro _ j hj0 hjn TN a b ha hb;simp at hjn;omega}
theorem Hp.fold_ok{α:Type}{lt:α->α->Bool}(ho:Hp.Ord lt):∀(ts:List α) {l:List α},Hp.Is lt l->Hp.Is lt (ts.foldl (Hp.push lt) l)
 |[],_,h=>h
 |t::ts,_,h=>Hp.fold_ok ho ts (Hp.push_ok ho h t)
theorem Hp.down_len(lt:α->α->Bool)(n:Nat)(l:List α)(i:Nat):(Hp.down lt n l i).length=l.length:=(Hp.down_perm lt n _ l i (AX _)).length_eq
theorem Hp.initF_ok{α:Type}{lt:α->α->Bool}(ho:Hp.Ord lt):∀(i:Nat) (l:List α),Hp.From lt l.length i l->Hp.Is lt (Hp.initF lt i l)
 |0,_,h=>h
 |i+1,l,h=>by
  unfold Hp.initF;refine Hp.initF_ok ho i _ ?_;rw[Hp.down_len];refine Hp.down_ok ho l.length i _ l i (AX _) (AX _) (AX _) ?_ ?_
  ·intro j hj0 hjn hjk hne a b ha hb
   exact h j hj0 hjn (by omega) a b ha hb
  ·intro h0 hk
   omega
theorem Hp.init_ok{lt:α->α->Bool}(ho:Hp.Ord lt)(l:List α):Hp.Is lt (Hp.init lt l):=by refine Hp.initF_ok ho _ l ?_;intro j hj0 hjn hk;omega
theorem Hp.first{α:Type}{lt:α->α->Bool}(ho:Hp.Ord lt)(hr:∀a,lt a a=false){l:List α}(h:Hp.Is lt l){x:α}(hx:l[0]?=some x):∀(j:Nat) (a:α),l[j]?=some a->lt a x=false:=by intro j;induction j using Nat.strongRecOn with|_ j ih=>intro a ha;by_cases h0:j=0;{subst h0;rw[hx]at ha;cases ha;exact hr _};{have hj:=(AK.1 ha).1;obtain⟨b,hb⟩:=Ib (l:=l) (i:=(j-1) / 2) (by omega);exact ho.trans _ _ _ (ih _ (by omega) b hb) (h j (by omega) hj (AG _) a b ha hb)}
theorem Hp.down_get{α:Type}(lt:α->α->Bool)(n:Nat):∀(m:Nat) (l:List α) (i:Nat),n-i<=m->n<=l.length->∀q,n<=q->(Hp.down lt n l i)[q]?=l[q]?
 |0,l,i,h,_,q,_=>by
  unfold Hp.down;rw[dif_neg (by omega)]
 |m+1,l,i,h,hn,q,hq=>by
  unfold Hp.down;split
  ·rename_i hi
   split
   ·have h1:=Hp.kid_gt lt n l i
    have h2:=Hp.kid_lt lt n l i hi;rw[Hp.down_get lt n m _ _ (by omega) (by rw[Hp.swap_len];exact hn) q hq,Hp.swap_get _ _ _ _ (by omega) (by omega),AO (by omega),AO (by omega)]
   ·rfl
  ·rfl
def Hp.popL{α:Type}(lt:α->α->Bool)(l:List α):List α:=Hp.down lt (l.length-1) (Hp.swap l 0 (l.length-1)) 0
theorem Hp.pop_ok{lt:α->α->Bool}(ho:Hp.Ord lt){l:List α}(h:Hp.Is lt l){x:α}(hx:l[0]?=some x):(Hp.popL lt l).length=l.length/\(Hp.popL lt l)[l.length-1]?=some x/\Hp.Is lt ((Hp.popL lt l).take (l.length-1))/\l.Perm (x::(Hp.popL lt l).take (l.length-1)):=by
 have hl:0<l.length:=(AK.1 hx).1;have hlen:(Hp.popL lt l).length=l.length:=by unfold Hp.popL;rw[Hp.down_len,Hp.swap_len]
 have vP:(Hp.popL lt l)[l.length-1]?=some x:=by unfold Hp.popL;rw[Hp.down_get lt _ _ _ 0 (AX _) (by rw[Hp.swap_len];omega) _ (AX _),Hp.swap_get _ _ _ _ (by omega) (by omega),AQ rfl,hx]
 refine⟨hlen,vP,?_,?_⟩;{(have hd:Hp.From lt (l.length-1) 0 (Hp.popL lt l):=by unfold Hp.popL;refine Hp.down_ok ho _ 0 _ _ 0 (AX _) (by rw[Hp.swap_len];omega) (AX _) ?_ (by omega);intro j hj0 hjn _ hne a b ha hb;rw[Hp.swap_get _ _ _ _ (by omega) (by omega),AO (by omega),AO (by omega)]at ha hb;exact h j hj0 (by omega) (AG _) a b ha hb);(unfold Hp.Is;have e:((Hp.popL lt l).take (l.length-1)).length=l.length-1:=by rw[BK,hlen];omega);rw[e];intro j hj0 hjn hk a b ha hb;rw[IX hjn]at ha;rw[IX (by omega)]at hb;exact hd j hj0 hjn hk a b ha hb};{have hp:(Hp.popL lt l).Perm l:=(Hp.down_perm lt _ _ _ _ (AX _)).trans (Hp.swap_perm _ _ _);refine hp.symm.trans ?_;(have e:Hp.popL lt l=(Hp.popL lt l).take (l.length-1)++[x]:=by have h1:=DK (l.length-1) (Hp.popL lt l);(have h2:(Hp.popL lt l).drop (l.length-1)=[x]:=by obtain⟨h3,h4⟩:=AK.1 vP;rw[CO h3,h4,BD (by rw[hlen];omega)]);rw[h2]at h1;exact h1.symm);rw[e];simp only[List.take_append_of_le_length (show l.length-1<=((Hp.popL lt l).take (l.length-1)).length by rw[BK,hlen];omega),KO,Nat.min_self];exact JI}
theorem B5:∀(a b:List Int),cmpL b a=- cmpL a b
 |[],[]=>rfl
 |[],_::_=>rfl
 |_::_,[]=>rfl
 |a::x,b::y=>by
  unfold cmpL;have ih:=B5 x y;by_cases h1:a<b
  ·rw[AQ h1,AO (by omega),AQ h1];rfl
  ·by_cases h2:b<a
   ·rw[AQ h2,AO h1,AQ h2]
   ·rw[AO h1,AO h2,AO h2,AO h1];exact ih
theorem Kz:∀(a b:List Int),cmpL a b=0->a=b
 |[],[],_=>rfl
 |[],_::_,h=>by simp[cmpL]at h
 |_::_,[],h=>by simp[cmpL]at h
 |a::x,b::y,h=>by
  unfold cmpL at h;split at h
  ·omega
  ·split at h
   ·omega
   ·rw[Kz x y h,show a=b from by omega]
theorem C6:∀(a:List Int),cmpL a a=0
 |[]=>rfl
 |a::x=>by
  unfold cmpL;rw[AO (by omega),AO (by omega)];exact C6 x
theorem Em:∀(a b c:List Int),cmpL a b<=0->cmpL b c<=0->cmpL a c<=0
 |[],_,[],_,_=>by simp[cmpL]
 |[],_,_::_,_,_=>by simp[cmpL]
 |_::_,[],_,h,_=>by simp[cmpL]at h
 |_::_,_::_,[],_,h=>by simp[cmpL]at h
 |a::x,b::y,c::z,h1,h2=>by
  unfold cmpL at h1 h2⊢;by_cases k1:a<b
  ·by_cases k2:b<c
   ·rw[AQ (by omega)];omega
   ·rw[AO k2]at h2
    by_cases k3:c<b
    ·rw[AQ k3]at h2;omega
    ·rw[AQ (by omega)];omega
  ·rw[AO k1]at h1
   by_cases k4:b<a
   ·rw[AQ k4]at h1;omega
   ·rw[AO k4]at h1
    by_cases k2:b<c
    ·rw[AQ (by omega)];omega
    ·rw[AO k2]at h2
     by_cases k3:c<b
     ·rw[AQ k3]at h2;omega
     ·rw[AO k3]at h2
      rw[AO (by omega),AO (by omega)];exact Em x y z h1 h2
theorem Tok.less_iff(t u:Tok):Tok.less t u=true↔0<cmpL t.age u.age\/(t.age=u.age/\cmpL t.nums u.nums<0):=by unfold Tok.less;by_cases h:cmpL t.age u.age=0;{rw[AQ h];simp only[CT];constructor;{intro k;exact .inr ⟨Kz _ _ h,k⟩};{rintro(k|k);{omega};{exact k.2}}};{rw[AO h];simp only[CT];constructor;{exact λk=>.inl k};{rintro(k|k);{exact k};{rw[k.1,C6]at h;exact absurd rfl h}}}
theorem Tok.less_ord:Hp.Ord Tok.less where
 asym:=by
  intro a b h;rw[Tok.less_iff]at h;rw[<-FQ,Tok.less_iff];rintro(k|⟨k1,k2⟩)
  ·rw[B5]at k
   rcases h with h|⟨h,_⟩
   ·omega
   ·rw[h,C6]at k;omega
  ·rw[B5]at k2
   rcases h with h|⟨h,h3⟩
   ·rw[k1,C6]at h;omega
   ·omega
 trans:=by
  intro a b c h1 h2;rw[<-FQ,Tok.less_iff]at h1 h2⊢
  have e1:cmpL b.age a.age<=0:=by
   by_cases h:0<cmpL b.age a.age
   ·exact absurd (.inl h) h1
   ·omega
  have e2:cmpL c.age b.age<=0:=by
   by_cases h:0<cmpL c.age b.age
   ·exact absurd (.inl h) h2
   ·omega
  have e3:=Em _ _ _ e2 e1;rintro(k|⟨k1,k2⟩)
  ·omega
  ·have e4:cmpL a.age b.age<=0:=by rw[<-k1];exact e2
   rw[B5]at e4;have e5:b.age=a.age:=Kz _ _ (by omega);have e6:c.age=b.age:=by rw[k1,e5]
   have f1:¬ cmpL b.nums a.nums<0:=λh=>h1 (.inr ⟨e5,h⟩)
   have f2:¬ cmpL c.nums b.nums<0:=λh=>h2 (.inr ⟨e6,h⟩)
   have g1:cmpL a.nums b.nums<=0:=by rw[B5];omega
   have g2:cmpL b.nums c.nums<=0:=by rw[B5];omega
   have:=Em _ _ _ g1 g2;rw[B5]at this;omega
theorem Tok.less_self(t:Tok):Tok.less t t=false:=by rw[<-FQ,Tok.less_iff];rintro(k|⟨_,k⟩);{rw[C6]at k;omega};{rw[C6]at k;omega}
theorem Ic:∀(a b:List Int),Fp a b->cmpL a b<0
 |[],[],h=>h.elim
 |[],_::_,_=>by simp[cmpL]
 |_::_,[],h=>h.elim
 |a::x,b::y,h=>by
  unfold cmpL;rcases h with h|⟨rfl,h⟩
  ·rw[AQ h];omega
  ·rw[AO (by omega),AO (by omega)]
   exact Ic x y h
theorem X4{l k:List (List Int)}(hp:l.Perm k)(h1:l.Pairwise Fp)(h2:k.Pairwise (λa b=>cmpL a b<=0)):l=k:=by refine List.Perm.eq_of_pairwise (le:=λa b=>cmpL a b<=0) ?_ ?_ h2 hp;{intro a b _ _ h1 h2;rw[B5]at h2;exact Kz _ _ (by omega)};{exact h1.imp (λ{a b} h=>by have:=Ic a b h;omega)}
end Go.Proofs.YtolhbeekfjnfmaaGreatDoor

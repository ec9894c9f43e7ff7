import Derived.Test.YtolhbeekfjnfmaaGreatDoorM11
import Derived.Test.YtolhbeekfjnfmaaGreatDoorM12
import Derived.Deep.AppendLies
namespace Go.Proofs.YtolhbeekfjnfmaaGreatDoor
open Go.RowKit
set_option maxRecDepth 100000 in
set_option maxHeartbeats 1000000 in
theorem vfact_w (f:Sv.Fact) (fa:Option Addr) (fc:Nat) (w:World) (hf:InAt (.slice fa f.vals.length fc) f.vals w) (hl:f.vals.length≤maxLen) :
    Calls Tryz.prog 119 #[.agg #[.int .i64 f.kind,.slice fa f.vals.length fc]] w fun e w'=>e=.returned (.bool (Sv.factOk f))∧w.grownBy w' none:=by
  have hgA:=World.grownBy_alloc w (.cells #[.int .i64 f.kind,.slice fa f.vals.length fc] 37) none
  have hF0:C2 37 w.heap.size (.int .i64 f.kind) (.slice fa f.vals.length fc) (w.alloc (.cells #[.int .i64 f.kind,.slice fa f.vals.length fc] 37)):=heap_alloc_new _ _
  unfold maxLen at hl
  by_cases h:(decide (f.kind < 0) || decide (9 < f.kind) || decide (4 < f.vals.length))=true
  · have e:Sv.factOk f=false:=by unfold Sv.factOk; rw [h]; rfl
    rw [e]
    clear e hf
    by_cases h1:f.kind < 0
    · have d1:decide (f.kind < 0)=true:=by simpa using h1
      go_enter Tryz.func119,Tryz.ntmps119
      go_wp2
      go_ret
      exact ⟨rfl,hgA⟩
    · have d1:decide (f.kind < 0)=false:=by simpa using h1
      by_cases h2:9 < f.kind
      · have d2:decide (9 < f.kind)=true:=by simpa using h2
        go_enter Tryz.func119,Tryz.ntmps119
        go_wp2
        go_ret
        exact ⟨rfl,hgA⟩
      · have d2:decide (9 < f.kind)=false:=by simpa using h2
        have h3:4 < f.vals.length:=by simpa [h1,h2] using h
        have d3:decide ((4:Int) < (f.vals.length:Int))=true:=by simp; omega
        clear h h1 h2
        go_enter Tryz.func119,Tryz.ntmps119
        go_wp2
        go_ret
        exact ⟨rfl,hgA⟩
  · have hn:(decide (f.kind < 0) || decide (9 < f.kind) || decide (4 < f.vals.length))=false:=by simpa using h
    have e:Sv.factOk f=f.vals.all Sv.valOk:=by unfold Sv.factOk; rw [hn]; rfl
    rw [e]
    rw [Bool.or_eq_false_iff,Bool.or_eq_false_iff] at hn
    obtain ⟨⟨d1,d2⟩,d3⟩:=hn
    have h4:f.vals.length≤4:=by simpa using d3
    have d3':decide ((4:Int) < (f.vals.length:Int))=false:=by simp; omega
    obtain ⟨R,hR⟩:∃ R,f.vals.all Sv.valOk=R:=⟨_,rfl⟩
    rw [hR]
    have HR:=hide hR
    have HF:=hide hf
    clear h e d3 hR hf
    go_enter Tryz.func119,Tryz.ntmps119
    go_wp2
    go_loopw [3] (fun x w'=>∃ i:Nat,i≤f.vals.length∧x=.int .i64 i∧w.grownBy w' none∧C2 37 w.heap.size (.int .i64 f.kind) (.slice fa f.vals.length fc) w'∧(f.vals.drop i).all Sv.valOk=R) (fun x _=>f.vals.length - (intOf x).toNat)
    case atStart=>exact ⟨0,Nat.zero_le _,rfl,hgA,hF0,unhide HR⟩
    case round=>
      clear hgA hF0 HR
      obtain ⟨i,hi,rfl,hg,hF,hR⟩:=hrel
      obtain ⟨f0,f1⟩:=hF.c
      by_cases hlt:i < f.vals.length
      · have hd:decide (i < f.vals.length)=true:=by simpa using hlt
        obtain ⟨x,hx⟩:∃ x,f.vals[i]?=some x:=⟨f.vals[i],List.getElem?_eq_getElem hlt⟩
        rw [drop_get hx,List.all_cons] at hR
        obtain ⟨g2,off2,rfl,x0⟩:=((unhide HF).gr hg).cell hx
        clear hx
        by_cases hx1:x < -999999999
        · have dx:decide (x < -999999999)=true:=by simpa using hx1
          have hv:Sv.valOk x=false:=by unfold Sv.valOk; rw [dx]; rfl
          rw [hv,Bool.false_and] at hR
          subst hR
          clear hv
          go_wp2
          go_ret
          exact ⟨rfl,hg⟩
        · have dx:decide (x < -999999999)=false:=by simpa using hx1
          by_cases hx2:999999999 < x
          · have dy:decide (999999999 < x)=true:=by simpa using hx2
            have hv:Sv.valOk x=false:=by unfold Sv.valOk; rw [dx,dy]; rfl
            rw [hv,Bool.false_and] at hR
            subst hR
            clear hv
            go_wp2
            go_ret
            exact ⟨rfl,hg⟩
          · have dy:decide (999999999 < x)=false:=by simpa using hx2
            have hv:Sv.valOk x=true:=by unfold Sv.valOk; rw [dx,dy]; rfl
            rw [hv,Bool.true_and] at hR
            have HR:=hide hR
            clear hR hv
            go_wp2
            go_roundw
            case rel=>exact ⟨i+1,by omega,by go_num,hg,hF,unhide HR⟩
            case measure=>simp [intOf]; omega
      · have hd:decide (i < f.vals.length)=false:=by simpa using hlt
        have e:f.vals.drop i=[]:=List.drop_of_length_le (by omega)
        rw [e] at hR
        have hR2:true=R:=hR
        subst hR2
        go_wp2
        go_ret
        exact ⟨rfl,hg⟩
set_option maxRecDepth 100000 in
set_option maxHeartbeats 1000000 in
theorem vcopied_w (f:Sv.Fact) (fa:Option Addr) (fc:Nat) (w:World) (hf:InAt (.slice fa f.vals.length fc) f.vals w) (hl:f.vals.length≤4) :
    Calls Tryz.prog 120 #[.agg #[.int .i64 f.kind,.slice fa f.vals.length fc]] w fun e w'=>∃ ao cap,e=.returned (.agg #[.int .i64 f.kind,.slice ao f.vals.length cap])∧w.grownBy w' none∧IsAt w.heap.size (.slice ao f.vals.length cap) f.vals w':=by
  obtain ⟨wA,hwA⟩:∃ wA,((w.alloc (.cells #[.int .i64 f.kind,.slice fa f.vals.length fc] 37)).alloc (.cells #[.int .i64 0,.slice none 0 0] 37)).alloc (.cells #[.int .i64 f.kind,.slice none 0 0] 37)=wA:=⟨_,rfl⟩
  have hgA:w.grownBy wA none:=by rw [←hwA]; exact gr_trans (World.grownBy_alloc w _ none) (gr_trans (World.grownBy_alloc _ _ none) (World.grownBy_alloc _ _ none))
  have hA1:C2 37 (w.heap.size+1) (.int .i64 0) (.slice none 0 0) wA:=by
    rw [←hwA]
    have:=heap_alloc_new (w.alloc (.cells #[.int .i64 f.kind,.slice fa f.vals.length fc] 37)) (.cells #[.int .i64 0,.slice none 0 0] 37)
    unfold C2
    rw [Below.heap_alloc _ _ _ (by simp)]
    simpa using this
  have hA2:C2 37 (w.heap.size+1+1) (.int .i64 f.kind) (.slice none 0 0) wA:=by
    rw [←hwA]
    have:=heap_alloc_new ((w.alloc (.cells #[.int .i64 f.kind,.slice fa f.vals.length fc] 37)).alloc (.cells #[.int .i64 0,.slice none 0 0] 37)) (.cells #[.int .i64 f.kind,.slice none 0 0] 37)
    unfold C2
    simpa using this
  have hsA:w.heap.size+3=wA.heap.size:=by rw [←hwA]; simp
  have hfA:=hf.gr hgA
  have HWA:=hide hwA
  clear hwA
  go_enter Tryz.func120,Tryz.ntmps120
  go_wp2_with (at_builtin; rw [unhide HWA]; refine app_in rfl _ _ 35 rfl Tryz.underlying35 Tryz.infoInt rfl rfl (RowAt.nil (w.heap.size+3) _ ienc_len) rfl hfA (by unfold maxLen; simp; omega) (by simp; omega) (Nat.le_of_eq hsA) ?_)
  intro v1 w1 hv1 hg1
  have hg1':wA.grownBy w1 none:=hg1
  have hB1:=hA1.kept hg1' (by simp)
  have hB2:=hA2.kept hg1' (by simp)
  obtain ⟨ao,cap,rfl⟩:=hv1.slice
  obtain ⟨b0,b1⟩:=hB1.c
  obtain ⟨c0,c1⟩:=hB2.c
  have bz0:=hB1.fz 0
  have bz1:=hB1.fz 1
  have cz0:=hB2.fz 0
  have cz1:=hB2.fz 1
  have hg01:=gr_trans hgA hg1'
  clear HWA hg1 hg1' hA1 hA2 hgA
  go_wp2
  have k1:=gr_set w1 (w.heap.size+1+1) 1 (.slice ao f.vals.length cap)
  have k2:=gr_set2 (w1.setCell ⟨w.heap.size+1+1,1,none⟩ (.slice ao f.vals.length cap)) (w.heap.size+1) (.int .i64 f.kind) (.slice ao f.vals.length cap)
  have hR:=(hB1.kept k1 (by simp)).set2 (.int .i64 f.kind) (.slice ao f.vals.length cap)
  obtain ⟨r0,r1⟩:=hR.c
  have hown:=hv1.own
  have hv2:=((hv1.other k1 (fun g hg e=>by have:=hown g hg; simp at e; omega)).other k2 (fun g hg e=>by have:=hown g hg; simp at e; omega)).weak (base':=w.heap.size) (by omega)
  have hg3:=gr_own (gr_own hg01 k1 (by omega)) k2 (by omega)
  exact bodyPost_ret (v:=.agg #[.int .i64 f.kind,.slice ao f.vals.length cap]) (by simp [results,Tryz.results120,go_sem,r0,r1]) rfl ⟨ao,cap,rfl,hg3,hv2⟩
def NewPost (r:Nat ⊕ List Sv.Rule) (w:World) (e:Ending) (w':World):Prop:=
  w.grownBy w' none∧match r with
    | .inl k=>e=.returned (.tuple #[.pointer none,.int .i64 k])
    | .inr rs=>∃ y rv,e=.returned (.tuple #[.pointer (some ⟨y,0,none⟩),.int .i64 0])∧w.heap.size≤y∧(∃ w1,VRsAt w.heap.size rv rs w1∧w1.heap.size≤y∧w1.grownBy w' none)∧YAt y rv (.slice none 0 0) (.int .i64 0) (.slice none 0 0) rs [] w'
set_option maxRecDepth 100000 in
set_option maxHeartbeats 1000000 in
theorem vNew_w (s:ByteArray) (w:World) (hm:s.size≤maxLen) :
    Calls Tryz.prog 52 #[.string s] w fun e w'=>NewPost (Sv.netOf s.data.toList) w e w':=by
  have hp:=vparse_w s w hm
  have key:∀ e w',VParsePost w s e w'→w.grownBy w' none∧match Sv.netOf s.data.toList with
      | .inl k=>∃ n,e=.returned (.tuple #[.slice none 0 0,.int .i64 n,.int .i64 k])∧(k=1∨k=2)
      | .inr rs=>∃ u,e=.returned (.tuple #[u,.int .i64 rs.length,.int .i64 0])∧VRsAt w.heap.size u rs w':=by
    rintro e w' ⟨hg,h⟩
    refine ⟨hg,?_⟩
    unfold Sv.netOf
    rw [size_list]
    by_cases h4:400 < s.size
    · rw [if_pos h4] at h ⊢
      exact ⟨0,h,.inr rfl⟩
    · rw [if_neg h4] at h ⊢
      cases hr:Sv.rules s.data.toList with
      | inl k=>
        rw [hr] at h
        exact ⟨k,h,.inl rfl⟩
      | inr rs=>
        rw [hr] at h
        simp only at h ⊢
        cases hx:Sv.ex rs
        · rw [hx] at h
          simpa using h
        · rw [hx] at h
          exact ⟨0,by simpa using h,.inr rfl⟩
  generalize Sv.netOf s.data.toList=R at key ⊢
  have KEY:=hide key
  clear key
  cases R with
  | inl k=>
    go_enter Tryz.func52,Tryz.ntmps52
    go_wp2_with fail
    refine hp.mono ?_
    intro e w1 hpost
    obtain ⟨hg1,n,rfl,hk⟩:=unhide KEY e w1 hpost
    clear hpost KEY hp
    have hd:((k:Int) != 0)=true:=by rcases hk with rfl | rfl<;>rfl
    go_wp2
    go_ret2
    exact ⟨hg1,rfl⟩
  | inr rs=>
    go_enter Tryz.func52,Tryz.ntmps52
    go_wp2_with fail
    refine hp.mono ?_
    intro e w1 hpost
    obtain ⟨hg1,u,rfl,hu⟩:=unhide KEY e w1 hpost
    obtain ⟨ao,cap,rfl⟩:=hu.slice
    clear hpost KEY hp
    go_wp2
    go_ret2
    have hgA:=World.grownBy_alloc w1 (.cells #[.slice ao rs.length cap,.slice none 0 0,.int .i64 0,.slice none 0 0] 172) none
    refine ⟨gr_trans hg1 hgA,w1.heap.size,.slice ao rs.length cap,rfl,hg1.size,⟨w1,hu,Nat.le_refl _,hgA⟩,heap_alloc_new _ _,?_,RowAt.nil _ _ thenc_len,by simp⟩
    have hu':VRsAt 0 (.slice ao rs.length cap) rs w1:=hu.weak (Nat.zero_le _)
    exact hu'.none hgA
end Go.Proofs.YtolhbeekfjnfmaaGreatDoor
namespace Go.Proofs.YtolhbeekfjnfmaaGreatDoor
open Go.RowKit
theorem C2.al2 (w:World) (x y u v:Value) (T T':TypeId):C2 T w.heap.size x y ((w.alloc (.cells #[x,y] T)).alloc (.cells #[u,v] T'))∧C2 T' (w.heap.size+1) u v ((w.alloc (.cells #[x,y] T)).alloc (.cells #[u,v] T')):=by
  constructor
  · unfold C2; rw [Below.heap_alloc _ _ _ (by simp)]; exact heap_alloc_new _ _
  · have:=heap_alloc_new (w.alloc (.cells #[x,y] T)) (.cells #[u,v] T')
    unfold C2
    simpa using this
theorem dec_drop {x y:Int} {a b:List Int}:decide (x :: a=y :: b)=(decide (x=y) && decide (a=b)):=by
  by_cases h1:x=y<;>by_cases h2:a=b<;>simp [h1,h2]
theorem dec_of (m k:VMt):decide (m.of=k.of)=(decide (m.rule=k.rule) && decide (m.ids=k.ids)):=by
  unfold VMt.of
  by_cases h1:m.rule=k.rule<;>by_cases h2:m.ids=k.ids<;>simp [h1,h2]
set_option maxRecDepth 100000 in
set_option maxHeartbeats 1000000 in
theorem vSame_w (a b:VMt) (aa ba:Option Addr) (ac bc:Nat) (w:World) (ha:IsAt 0 (.slice aa a.ids.length ac) a.ids w) (hb:IsAt 0 (.slice ba b.ids.length bc) b.ids w) :
    Calls Tryz.prog 122 #[.agg #[.int .i64 a.rule,.slice aa a.ids.length ac],.agg #[.int .i64 b.rule,.slice ba b.ids.length bc]] w fun e w'=>e=.returned (.bool (decide (a.of=b.of)))∧w.grownBy w' none:=by
  rw [dec_of]
  have hla:=ha.le
  unfold maxLen at hla
  have hgA:=gr_al2 w (.cells #[.int .i64 a.rule,.slice aa a.ids.length ac] 52) (.cells #[.int .i64 b.rule,.slice ba b.ids.length bc] 52)
  obtain ⟨hA,hB⟩:=C2.al2 w (.int .i64 a.rule) (.slice aa a.ids.length ac) (.int .i64 b.rule) (.slice ba b.ids.length bc) 52 52
  by_cases hr:a.rule=b.rule
  · have hd:(a.rule != b.rule)=false:=by simpa using hr
    have e1:decide (a.rule=b.rule)=true:=by simpa using hr
    rw [e1,Bool.true_and]
    clear e1 hr
    by_cases hl:a.ids.length=b.ids.length
    · have hd2:((a.ids.length:Int) != (b.ids.length:Int))=false:=by simp; omega
      have HL:=hide hl
      have HA:=hide ha
      have HB:=hide hb
      obtain ⟨R,hR⟩:∃ R,decide (a.ids=b.ids)=R:=⟨_,rfl⟩
      rw [hR]
      have HR:=hide hR
      clear hl ha hb hR
      go_enter Tryz.func122,Tryz.ntmps122
      go_wp2
      go_loopw [5] (fun x w'=>∃ i:Nat,i≤a.ids.length∧x=.int .i64 i∧w.grownBy w' none∧C2 52 w.heap.size (.int .i64 a.rule) (.slice aa a.ids.length ac) w'∧C2 52 (w.heap.size+1) (.int .i64 b.rule) (.slice ba b.ids.length bc) w'∧decide (a.ids.drop i=b.ids.drop i)=R) (fun x _=>a.ids.length - (intOf x).toNat)
      case atStart=>exact ⟨0,Nat.zero_le _,rfl,hgA,hA,hB,unhide HR⟩
      case round=>
        clear hgA hA hB HR
        obtain ⟨i,hi,rfl,hg,hA,hB,hR⟩:=hrel
        obtain ⟨a0,a1⟩:=hA.c
        obtain ⟨b0,b1⟩:=hB.c
        by_cases hlt:i < a.ids.length
        · have hdi:decide (i < a.ids.length)=true:=by simpa using hlt
          have hL:=unhide HL
          have hltb:i < b.ids.length:=by omega
          obtain ⟨x,hx⟩:∃ x,a.ids[i]?=some x:=⟨a.ids[i],List.getElem?_eq_getElem hlt⟩
          obtain ⟨y,hy⟩:∃ y,b.ids[i]?=some y:=⟨b.ids[i],List.getElem?_eq_getElem hltb⟩
          rw [drop_get hx,drop_get hy,dec_drop] at hR
          obtain ⟨g,cp,hv,hcs⟩:=((unhide HA).gr hg).cells hx
          obtain ⟨g2,cp2,hv2,hcs2⟩:=((unhide HB).gr hg).cells hy
          simp only [Value.slice.injEq,true_and] at hv hv2
          obtain ⟨rfl,rfl⟩:=hv
          obtain ⟨rfl,rfl⟩:=hv2
          have x0:wr.cell? ⟨g,i,none⟩=some (.int .i64 x):=by have:=hcs 0 (by omega); simpa [ienc] using this
          have y0:wr.cell? ⟨g2,i,none⟩=some (.int .i64 y):=by have:=hcs2 0 (by omega); simpa [ienc] using this
          clear hcs hcs2 hx hy hL
          by_cases hxy:x=y
          · have hdx:(x != y)=false:=by simpa using hxy
            have e2:decide (x=y)=true:=by simpa using hxy
            rw [e2,Bool.true_and] at hR
            have HR:=hide hR
            clear hR e2 hxy
            go_wp2
            go_quiet (fail)
            go_wp2
            go_roundw
            case rel=>exact ⟨i+1,by omega,by go_num,gr_trans hg (gr_drewN _ _ _),hA,hB,unhide HR⟩
            case measure=>simp [intOf]; omega
          · have hdx:(x != y)=true:=by simpa using hxy
            have e2:decide (x=y)=false:=by simpa using hxy
            rw [e2,Bool.false_and] at hR
            subst hR
            clear e2 hxy
            go_wp2
            go_quiet (fail)
            go_wp2
            go_ret
            exact ⟨rfl,gr_trans hg (gr_drewN _ _ _)⟩
        · have hdi:decide (i < a.ids.length)=false:=by simpa using hlt
          have hL:=unhide HL
          rw [List.drop_of_length_le (by omega),List.drop_of_length_le (by omega)] at hR
          have hR2:true=R:=by simpa using hR
          subst hR2
          clear hR hL
          go_wp2
          go_ret
          exact ⟨rfl,hg⟩
    · have hd2:((a.ids.length:Int) != (b.ids.length:Int))=true:=by simp; omega
      have e1:decide (a.ids=b.ids)=false:=by
        simp only [decide_eq_false_iff_not]
        intro h
        exact hl (by rw [h])
      rw [e1]
      clear e1 hl ha hb
      go_enter Tryz.func122,Tryz.ntmps122
      go_wp2
      go_ret
      exact ⟨rfl,hgA⟩
  · have hd:(a.rule != b.rule)=true:=by simpa using hr
    have e1:decide (a.rule=b.rule)=false:=by simpa using hr
    rw [e1,Bool.false_and]
    clear e1 hr ha hb
    go_enter Tryz.func122,Tryz.ntmps122
    go_wp2
    go_ret
    exact ⟨rfl,hgA⟩
set_option maxRecDepth 100000 in
set_option maxHeartbeats 1000000 in
theorem vhas_w (ms:List VMt) (v:Value) (x:VMt) (xa:Option Addr) (xc:Nat) (w:World) (hms:MsAt 0 v ms w) (hx:IsAt 0 (.slice xa x.ids.length xc) x.ids w) :
    Calls Tryz.prog 86 #[v,.agg #[.int .i64 x.rule,.slice xa x.ids.length xc]] w fun e w'=>e=.returned (.bool (Sv.hasM (ms.map VMt.of) x.of))∧w.grownBy w' none:=by
  obtain ⟨ao,cap,rfl⟩:=hms.slice
  have hle:=hms.1.le
  unfold maxLen at hle
  have hgA:=World.grownBy_alloc w (.cells #[.int .i64 x.rule,.slice xa x.ids.length xc] 52) none
  have hX:C2 52 w.heap.size (.int .i64 x.rule) (.slice xa x.ids.length xc) (w.alloc (.cells #[.int .i64 x.rule,.slice xa x.ids.length xc] 52)):=heap_alloc_new _ _
  have HM:=hide hms
  have HX:=hide hx
  obtain ⟨R,hR⟩:∃ R,Sv.hasM (ms.map VMt.of) x.of=R:=⟨_,rfl⟩
  rw [hR]
  have HR:=hide hR
  clear hms hx hR
  go_enter Tryz.func86,Tryz.ntmps86
  go_wp2
  go_loopw [5] (fun z w'=>∃ i:Nat,i≤ms.length∧z=.int .i64 i∧w.grownBy w' none∧C2 52 w.heap.size (.int .i64 x.rule) (.slice xa x.ids.length xc) w'∧Sv.hasM ((ms.drop i).map VMt.of) x.of=R) (fun z _=>ms.length - (intOf z).toNat)
  case atStart=>exact ⟨0,Nat.zero_le _,rfl,hgA,hX,unhide HR⟩
  case round=>
    clear hgA hX HR
    obtain ⟨i,hi,rfl,hg,hX,hR⟩:=hrel
    obtain ⟨x0,x1⟩:=hX.c
    by_cases hlt:i < ms.length
    · have hdi:decide (i < ms.length)=true:=by simpa using hlt
      obtain ⟨m,hm⟩:∃ m,ms[i]?=some m:=⟨ms[i],List.getElem?_eq_getElem hlt⟩
      rw [drop_get hm,List.map_cons] at hR
      obtain ⟨g,cp,hv,hcs⟩:=((unhide HM).1.gr hg).cells hm
      simp only [Value.slice.injEq,true_and] at hv
      obtain ⟨rfl,rfl⟩:=hv
      have m0:wr.cell? ⟨g,i * 2,none⟩=some (.int .i64 m.rule):=hcs 0 (by omega)
      have m1:wr.cell? ⟨g,i * 2+1,none⟩=some m.v:=hcs 1 (by omega)
      have hmi:=(unhide HM).2 m (List.mem_of_getElem? hm)
      obtain ⟨ma,mc,hmv⟩:=hmi.slice
      rw [hmv] at m1 hmi
      have hS:=fun (W:World) (hW:wr.grownBy W none)=>vSame_w m x ma xa mc xc W (hmi.gr (gr_trans hg hW)) ((unhide HX).gr (gr_trans hg hW))
      have hR2:(decide (m.of=x.of) || Sv.hasM ((ms.drop (i+1)).map VMt.of) x.of)=R:=hR
      have HR:=hide hR2
      clear hR hR2 hcs hm hmi hmv
      obtain ⟨d,hd⟩:∃ d,decide (m.of=x.of)=d:=⟨_,rfl⟩
      rw [hd] at hS
      have HD:=hide hd
      clear hd
      go_wp2_with fail
      go_cut [6] (fun s wx=>s=.bool d∧wr.grownBy wx none)
      case first=>
        go_region_with (go_at_call 122; refine (hS _ (by repeat (first | exact World.grownBy.refl _ _ | apply gr_drew))).mono ?_; rintro e w2 ⟨rfl,hg2⟩)
        all_goals
          go_wp2_with fail
          go_meet
          exact ⟨rfl,gr_trans (gr_drew (World.grownBy.refl _ _)) hg2⟩
      case rest=>
        obtain ⟨rfl,hg2⟩:=hcut
        have hgc:=gr_trans hg hg2
        have hX2:=hX.kept hg2 (by simp)
        have hRR:=unhide HR
        rw [unhide HD] at hRR
        clear HR HD hS hg2
        cases d
        · rw [Bool.false_or] at hRR
          have HR:=hide hRR
          clear hRR
          go_wp2
          go_roundw
          case rel=>exact ⟨i+1,by omega,by go_num,hgc,hX2,unhide HR⟩
          case measure=>simp [intOf]; omega
        · rw [Bool.true_or] at hRR
          subst hRR
          go_wp2
          go_ret
          exact ⟨rfl,hgc⟩
    · have hdi:decide (i < ms.length)=false:=by simpa using hlt
      rw [List.drop_of_length_le (by omega)] at hR
      have hR2:false=R:=hR
      subst hR2
      clear hR
      go_wp2
      go_ret
      exact ⟨rfl,hg⟩
end Go.Proofs.YtolhbeekfjnfmaaGreatDoor
namespace Go.Proofs.YtolhbeekfjnfmaaGreatDoor
open Go.RowKit
theorem YAt.rowOk {y:Nat} {rv lv cv fv:Value} {rs:List Sv.Rule} {L:List VTh} {w:World} (h:YAt y rv lv cv fv rs L w):RowOk 0 172 (some y) w:=by
  intro g hg
  simp only [Option.some.injEq] at hg
  subst hg
  exact ⟨Nat.zero_le _,_,_,h.blk⟩
theorem YAt.fz {y:Nat} {rv lv cv fv:Value} {rs:List Sv.Rule} {L:List VTh} {w:World} (h:YAt y rv lv cv fv rs L w) (o:Nat):w.frozen? ⟨y,o,none⟩=false:=by
  have:=h.blk
  simp [World.frozen?,this]
theorem YAt.set3 {y:Nat} {rv lv cv fv:Value} {rs:List Sv.Rule} {L:List VTh} {w:World} (h:YAt y rv lv cv fv rs L w) (u:Value):YAt y rv lv cv u rs L (w.setCell ⟨y,3,none⟩ u):=by
  have hg:=gr_set w y 3 u
  refine ⟨?_,h.rules.row hg h.rowOk (by decide) (by decide) (by decide),h.facts.row hg h.rowOk (by decide),fun t ht=>⟨(h.vals t ht).1.row hg h.rowOk (by decide),(h.vals t ht).2⟩⟩
  rw [heap_setCell_same w y 3 _ _ _ h.blk]
  rfl
theorem MsAt.ybl {base:Nat} {v:Value} {ms:List VMt} {w w':World} (h:MsAt base v ms w) {y:Nat} {rv lv cv fv:Value} {rs:List Sv.Rule} {L:List VTh} (hy:YAt y rv lv cv fv rs L w) (hg:w.grownBy w' (some y)):MsAt base v ms w':=
  ⟨h.1.row hg hy.rowOk (by decide),fun m hm=>(h.2 m hm).row hg hy.rowOk (by decide)⟩
theorem MsAt.weak {base base':Nat} {v:Value} {ms:List VMt} {w:World} (h:MsAt base v ms w) (hb:base'≤base):MsAt base' v ms w:=⟨h.1.weak hb,fun m hm=>(h.2 m hm).weak hb⟩
theorem filter_one {α:Type} (p:α→Bool) (a:α):[a].filter p=if p a=true then [a] else []:=by
  cases h:p a<;>simp [h]
theorem Sv.keepF_len (ms fd:List (Int×List Int)):(Sv.keepF ms fd).length≤fd.length:=List.length_filter_le _ _
def ForgetPost (y:Nat) (rv lv cv:Value) (rs:List Sv.Rule) (L:List VTh) (fd:List VMt) (w:World) (e:Ending) (w':World):Prop:=
  e=.returned (.tuple #[])∧w.grownBy w' (some y)∧∃ fv' fd',YAt y rv lv cv fv' rs L w'∧MsAt 0 fv' fd' w'∧fd'.map VMt.of=Sv.keepF (Sv.matches rs (L.map VTh.of)) (fd.map VMt.of)∧(∀ m∈fd',m∈fd)∧∀ g,fv'.ownBlock=some g→w.heap.size≤g
set_option maxRecDepth 100000 in
set_option maxHeartbeats 1000000 in
theorem vforget_none (y:Nat) (rv lv cv fv:Value) (rs:List Sv.Rule) (L:List VTh) (w:World) (hy:YAt y rv lv cv fv rs L w) (hf:MsAt 0 fv [] w) :
    Calls Tryz.prog 85 #[.pointer (some ⟨y,0,none⟩)] w fun e w'=>ForgetPost y rv lv cv rs L [] w e w':=by
  obtain ⟨ao,cap,rfl⟩:=hf.slice
  obtain ⟨y0,y1,y2,y3⟩:=hy.c
  have z3:=hy.fz 3
  have HY:=hide hy
  clear hy y0 y1 y2
  go_enter Tryz.func85,Tryz.ntmps85
  go_wp2
  go_end0
  exact ⟨rfl,gr_set w y 3 _,.slice none 0 0,[],(unhide HY).set3 _,⟨RowAt.nil _ _ mtenc_len,by simp⟩,rfl,by simp,by simp [Value.ownBlock]⟩
set_option maxRecDepth 100000 in
set_option maxHeartbeats 1000000 in
theorem vforget_some (y:Nat) (rv lv cv fv:Value) (rs:List Sv.Rule) (L:List VTh) (fd:List VMt) (w:World) (hy:YAt y rv lv cv fv rs L w) (hok:Sv.RsOk rs) (hL:L.length≤16) (hf:MsAt 0 fv fd w) (hne:0 < fd.length) (hfb:fd.length≤1000000) :
    Calls Tryz.prog 85 #[.pointer (some ⟨y,0,none⟩)] w fun e w'=>ForgetPost y rv lv cv rs L fd w e w':=by
  obtain ⟨ao,cap,rfl⟩:=hf.slice
  obtain ⟨y0,y1,y2,y3⟩:=hy.c
  have hd:decide ((0:Int) < (fd.length:Int))=true:=by simp; omega
  have hM:=vMatches_w y rv lv cv _ rs L w hy hok hL
  have HY:=hide hy
  have HF:=hide hf
  have HNE:=hide hne
  clear hy hf y0 y1 y2 hok hne
  go_enter Tryz.func85,Tryz.ntmps85
  go_wp2_with fail
  refine hM.mono ?_
  rintro e w1 ⟨u,ms,rfl,hms,hmap,hg1⟩
  obtain ⟨aoM,capM,rfl⟩:=hms.slice
  have HMS:=hide (hms.weak (Nat.zero_le _))
  have HMP:=hide hmap
  clear hmap hM hms
  go_wp2
  go_loopw [2,4] (fun x z w'=>∃ (i:Nat) (acc:List VMt),i≤fd.length∧z=.int .i64 i∧w1.grownBy w' none∧RowAt 52 2 mtenc w1.heap.size x acc w'∧(∀ m∈acc,m∈fd)∧acc.length≤i∧acc.map VMt.of=Sv.keepF (ms.map VMt.of) ((fd.take i).map VMt.of)) (fun _ z _=>fd.length - (intOf z).toNat)
  case atStart=>exact ⟨0,[],Nat.zero_le _,rfl,World.grownBy.refl _ _,RowAt.nil _ _ mtenc_len,by simp,Nat.le_refl _,by simp [Sv.keepF]⟩
  case round=>
    obtain ⟨i,acc,hi,rfl,hg,hacc,hsub,hal,hk⟩:=hrel
    obtain ⟨aoA,capA,rfl⟩:=hacc.slice
    have hg0:=gr_trans hg1 hg
    have y3':=hg0.cell y3 (by simp)
    have HSB:=hide hsub
    have HK:=hide hk
    clear hsub hk
    by_cases hlt:i < fd.length
    · have hdi:decide (i < fd.length)=true:=by simpa using hlt
      obtain ⟨m,hm⟩:∃ m,fd[i]?=some m:=⟨fd[i],List.getElem?_eq_getElem hlt⟩
      have hmm:=List.mem_of_getElem? hm
      obtain ⟨g,cp,hv,hcs⟩:=((unhide HF).1.gr hg0).cells hm
      simp only [Value.slice.injEq,true_and] at hv
      obtain ⟨rfl,rfl⟩:=hv
      have m0:wr.cell? ⟨g,i * 2,none⟩=some (.int .i64 m.rule):=hcs 0 (by omega)
      have m1:wr.cell? ⟨g,i * 2+1,none⟩=some m.v:=hcs 1 (by omega)
      have hmi:=(unhide HF).2 m hmm
      obtain ⟨ma,mc,hmv⟩:=hmi.slice
      rw [hmv] at m1 hmi
      have hH:=vhas_w ms _ m ma mc wr ((unhide HMS).gr hg) (hmi.gr hg0)
      have hst:Sv.keepF (ms.map VMt.of) ((fd.take (i+1)).map VMt.of)=acc.map VMt.of ++ (if Sv.hasM (ms.map VMt.of) m.of=true then [m.of] else []):=by
        rw [take_map_snoc VMt.of fd i m hm,unhide HK]
        unfold Sv.keepF
        rw [List.filter_append]
        congr 1
        exact filter_one _ _
      obtain ⟨d,hd2⟩:∃ d,Sv.hasM (ms.map VMt.of) m.of=d:=⟨_,rfl⟩
      rw [hd2] at hst hH
      have HST:=hide hst
      have HMM:=hide hmm
      have HMV:=hide hmv
      clear hst hcs hm hmi hd2 HK hmm hmv
      go_wp2_with fail
      refine hH.mono ?_
      rintro e w2 ⟨rfl,hg2⟩
      have hgc:=gr_trans hg hg2
      have hacc2:=hacc.gr hg2
      have y32:=hg2.cell y3' (by simp)
      have m02:=hg2.cell m0 (by simp)
      have m12:=hg2.cell m1 (by simp)
      clear hH hg hg2 hacc y3' m0 m1 hg0
      cases d
      · have hst:=unhide HST
        simp only [Bool.false_eq_true,if_false,List.append_nil] at hst
        have HS2:=hide hst
        clear hst HST
        go_wp2
        go_roundw
        case rel=>exact ⟨i+1,acc,by omega,by go_num,hgc,hacc2,unhide HSB,by omega,(unhide HS2).symm⟩
        case measure=>simp [intOf]; omega
      · have hst:=unhide HST
        simp only [if_true] at hst
        have HS2:=hide hst
        clear hst HST
        have hgA:=World.grownBy_alloc w2 (.cells #[.int .i64 m.rule,.slice ma m.ids.length mc] 52) none
        have hacc3:=hacc2.gr hgA
        have hsrc:RowAt 52 2 mtenc 0 _ [m] (w2.alloc (.cells #[.int .i64 m.rule,.slice ma m.ids.length mc] 52)):=(RowAt.lit1 mtenc_len w2 m #[.int .i64 m.rule,.slice ma m.ids.length mc] (by unfold mtenc; rw [unhide HMV])).weak (Nat.zero_le _)
        have hone:∀ k∈[m],∀ c∈mtenc k,c.oneCell'=true:=by
          intro k hk
          simp only [List.mem_singleton] at hk
          subst hk
          exact mtenc_one_of k (by rw [unhide HMV]; rfl)
        have HONE:=hide hone
        clear hone
        have hso:=hacc3.own
        have hszc:=Nat.le_trans hgc.size hgA.size
        go_wp2_with (at_builtin; refine app_row rfl _ _ 43 rfl Tryz.underlying43 Tryz.infoMatch rfl (by decide) rfl hacc3 rfl hsrc (unhide HONE) (by unfold maxLen; simp; omega) (by simp; omega) hszc ?_)
        intro v5 w5 hv5 hg5
        obtain ⟨ao9,cap9,rfl⟩:=hv5.slice
        have hgc5:=gr_app (gr_trans hgc hgA) hg5 (fun x hx=>(hso x hx).1)
        clear hsrc HONE hacc3 hso hgA hg5
        go_wp2
        go_roundw
        case rel=>
          refine ⟨i+1,acc ++ [m],by omega,by go_num,hgc5,hv5,?_,by simp; omega,?_⟩
          · intro k hk
            rcases List.mem_append.1 hk with hk | hk
            · exact unhide HSB k hk
            · simp only [List.mem_singleton] at hk
              subst hk
              exact unhide HMM
          · rw [List.map_append,unhide HS2]; rfl
        case measure=>simp [intOf]; omega
    · have hdi:decide (i < fd.length)=false:=by simpa using hlt
      have hall:fd.take i=fd:=List.take_of_length_le (by omega)
      have hk:=unhide HK
      rw [hall,unhide HMP] at hk
      have HK2:=hide hk
      clear hk hall HK
      have hy':=(unhide HY).gr hg0
      have z3:=hy'.fz 3
      have hms':MsAt 0 (.slice aoA acc.length capA) acc wr:=⟨hacc.weak (Nat.zero_le _),fun m hm=>((unhide HF).2 m (unhide HSB m hm)).gr hg0⟩
      have hso:=hacc.own
      have hsz1:=hg1.size
      go_wp2
      go_end0
      have hgs:=gr_set wr y 3 (.slice aoA acc.length capA)
      exact ⟨rfl,gr_trans (gr_any hg0 _) hgs,_,acc,hy'.set3 _,hms'.ybl hy' hgs,unhide HK2,unhide HSB,fun g hgg=>by have:=(hso g hgg).1; omega⟩
theorem vforget_w (y:Nat) (rv lv cv fv:Value) (rs:List Sv.Rule) (L:List VTh) (fd:List VMt) (w:World) (hy:YAt y rv lv cv fv rs L w) (hok:Sv.RsOk rs) (hL:L.length≤16) (hf:MsAt 0 fv fd w) (hfb:fd.length≤1000000) :
    Calls Tryz.prog 85 #[.pointer (some ⟨y,0,none⟩)] w fun e w'=>ForgetPost y rv lv cv rs L fd w e w':=by
  cases fd with
  | nil=>exact vforget_none y rv lv cv fv rs L w hy hf
  | cons m fd=>exact vforget_some y rv lv cv fv rs L (m :: fd) w hy hok hL hf (by simp) hfb
end Go.Proofs.YtolhbeekfjnfmaaGreatDoor
namespace Go.Proofs.YtolhbeekfjnfmaaGreatDoor
open Go.RowKit
structure VFt where
  kind:Int
  v:Value
  vals:List Int
def ftenc (f:VFt):List Value:=[.int .i64 f.kind,f.v]
theorem ftenc_len (f:VFt):(ftenc f).length=2:=rfl
theorem Tryz.infoFact:(Tryz.prog.info? 37).map (fun i=>(i.zero,i.size,i.bytes))=some (some (.agg #[.int .i64 0,.slice none 0 0]),2,32):=by kernel_rfl
def InH (t:Nat):Prop:=13≤t∧t % 3=1
structure Hand (T:Nat→Nat) (e:TypeId) (v:Value) (xs:List VFt) (w:World):Prop where
  row:TRow T 13 e 2 ftenc v xs w
  els:∀ i x,xs[i]?=some x→TRow T (13+3 * (i+1)) 3 1 ienc x.v x.vals w∧x.vals.length≤1000000
end Go.Proofs.YtolhbeekfjnfmaaGreatDoor
namespace Go.Proofs.YtolhbeekfjnfmaaGreatDoor
open Go.RowKit
def VTh.ft (t:VTh):VFt:=⟨t.kind,t.v,t.vals⟩
theorem Tryz.infoThere:(Tryz.prog.info? 176).map (fun i=>(i.zero,i.size,i.bytes))=some (some (.agg #[.int .i64 0,.int .i64 0,.slice none 0 0]),3,40):=by kernel_rfl
def FactsPost (L:List VTh) (w:World) (e:Ending) (w':World):Prop:=
  ∃ a l,e=.returned (.tuple #[a,l])∧IsAt w.heap.size a (L.map VTh.id) w'∧RowAt 37 2 ftenc w.heap.size l (L.map VTh.ft) w'∧w.grownBy w' none
theorem InAt.none {v:Value} {w w':World} (h:InAt v [] w):InAt v [] w':=by
  rcases h with h1 | ⟨a,cap,h1,h2,_⟩
  · exact .inl h1
  · exact .inr ⟨a,cap,h1,h2,by simp⟩
theorem InAt.kept' {v:Value} {l:List Int} {w w':World} {row:Option Nat} (h:InAt v l w) (hg:w.grownBy w' row) (hne:l≠[]→∀ g,v.ownBlock=some g→row≠some g):InAt v l w':=by
  by_cases hl:l=[]
  · subst hl; exact h.none
  · exact h.kept hg (hne hl)
set_option maxRecDepth 100000 in
set_option maxHeartbeats 1000000 in
theorem vFacts_w (y:Nat) (rv lv cv fv:Value) (rs:List Sv.Rule) (L:List VTh) (w:World) (hy:YAt y rv lv cv fv rs L w) (hL:L.length≤16) :
    Calls Tryz.prog 81 #[.pointer (some ⟨y,0,none⟩)] w fun e w'=>FactsPost L w e w':=by
  obtain ⟨y0,y1,y2,y3⟩:=hy.c
  obtain ⟨aoL,capL,rfl⟩:=hy.facts.slice
  have HY:=hide hy
  clear hy y0 y2 y3
  go_enter Tryz.func81,Tryz.ntmps81
  go_wp2
  go_loopw [4,5,6] (fun a l z w'=>∃ i:Nat,i≤L.length∧z=.int .i64 i∧w.grownBy w' none∧IsAt w.heap.size a ((L.take i).map VTh.id) w'∧RowAt 37 2 ftenc w.heap.size l ((L.take i).map VTh.ft) w') (fun _ _ z _=>L.length - (intOf z).toNat)
  case atStart=>exact ⟨0,Nat.zero_le _,rfl,World.grownBy.refl _ _,RowAt.nil _ _ ienc_len,RowAt.nil _ _ ftenc_len⟩
  case round=>
    obtain ⟨i,hi,rfl,hg,ha,hl⟩:=hrel
    by_cases hlt:i < L.length
    · have hdi:decide (i < L.length)=true:=by simpa using hlt
      obtain ⟨t,ht⟩:∃ t,L[i]?=some t:=⟨L[i],List.getElem?_eq_getElem hlt⟩
      have y1':=hg.cell y1 (by simp)
      obtain ⟨g,cp,hv,hcs⟩:=((unhide HY).facts.gr hg).cells ht
      simp only [Value.slice.injEq,true_and] at hv
      obtain ⟨rfl,rfl⟩:=hv
      have t0:wr.cell? ⟨g,i * 3,none⟩=some (.int .i64 t.id):=hcs 0 (by omega)
      have t1:wr.cell? ⟨g,i * 3+1,none⟩=some (.int .i64 t.kind):=hcs 1 (by omega)
      have t2:wr.cell? ⟨g,i * 3+2,none⟩=some t.v:=hcs 2 (by omega)
      obtain ⟨ma,mc,hmv⟩:=((unhide HY).vals t (List.mem_of_getElem? ht)).1.slice
      rw [hmv] at t2
      have e1:=take_map_snoc VTh.id L i t ht
      have e2:=take_map_snoc VTh.ft L i t ht
      generalize hA:(L.take i).map VTh.id=A at *
      generalize hB:(L.take i).map VTh.ft=B at *
      have hAl:A.length=i:=by rw [←hA,List.length_map,List.length_take]; omega
      have hBl:B.length=i:=by rw [←hB,List.length_map,List.length_take]; omega
      have hA16:A.length≤16:=by omega
      have hB16:B.length≤16:=by omega
      have HE1:=hide e1
      have HE2:=hide e2
      have HMV:=hide hmv
      clear e1 e2 hA hB hAl hBl hcs ht hmv
      obtain ⟨aoA,capA,rfl⟩:=ha.slice
      obtain ⟨aoB,capB,rfl⟩:=hl.slice
      have hgA:=World.grownBy_alloc wr (.cells #[.int .i64 t.id] 3) none
      have ha2:=ha.gr hgA
      have hl2:=hl.gr hgA
      have hsrc:IsAt 0 _ [t.id] (wr.alloc (.cells #[.int .i64 t.id] 3)):=(RowAt.lit1 ienc_len wr t.id #[.int .i64 t.id] rfl).weak (Nat.zero_le _)
      have hsz:=Nat.le_trans hg.size hgA.size
      have hso:=ha2.own
      have hro:=RowOk.of ha2.2
      have y12:=hgA.cell y1' (by simp)
      have t12:=hgA.cell t1 (by simp)
      have t22:=hgA.cell t2 (by simp)
      have hgw:=gr_trans hg hgA
      have hylt:y < w.heap.size:=row_lt (unhide HY).blk
      have hglt:g < w.heap.size:=by
        have:=(unhide HY).facts.own g rfl
        exact this.2
      go_wp2_with (at_builtin; refine app_row rfl _ _ 35 rfl Tryz.underlying35 Tryz.infoInt rfl (by decide) rfl ha2 rfl hsrc (fun y _=>ienc_one y) (by unfold maxLen; simp; omega) (by simp; omega) hsz ?_)
      intro v5 w5 hv5 hg5
      have hgc5:=gr_app hgw hg5 (fun x hx=>(hso x hx).1)
      have hl5:=hl2.row hg5 hro (by decide)
      have y15:=hg5.cell y12 (fun e=>by have:=hso _ e.symm; simp at this; omega)
      have t15:=hg5.cell t12 (fun e=>by have:=hso _ e.symm; simp at this; omega)
      have t25:=hg5.cell t22 (fun e=>by have:=hso _ e.symm; simp at this; omega)
      obtain ⟨ao5,cap5,rfl⟩:=hv5.slice
      clear hgA ha2 hl2 hsrc hsz hso hro y12 t12 t22 hg5 ha hl hgw
      have hgB:=World.grownBy_alloc w5 (.cells #[.int .i64 t.kind,.slice ma t.vals.length mc] 37) none
      have hl6:=hl5.gr hgB
      have hv6:=hv5.gr hgB
      have hsrc:RowAt 37 2 ftenc 0 _ [t.ft] (w5.alloc (.cells #[.int .i64 t.kind,.slice ma t.vals.length mc] 37)):=(RowAt.lit1 ftenc_len w5 t.ft #[.int .i64 t.kind,.slice ma t.vals.length mc] (by unfold ftenc VTh.ft; rw [unhide HMV])).weak (Nat.zero_le _)
      have hone:∀ k∈[t.ft],∀ c∈ftenc k,c.oneCell'=true:=by
        intro k hk
        simp only [List.mem_singleton] at hk
        subst hk
        intro c hc
        simp [ftenc,VTh.ft,unhide HMV] at hc
        rcases hc with rfl | rfl<;>rfl
      have HONE:=hide hone
      clear hone
      have hsz:=Nat.le_trans hgc5.size hgB.size
      have hso:=hl6.own
      have hro:=RowOk.of hl6.2
      go_wp2_with (at_builtin; refine app_row rfl _ _ 47 rfl Tryz.underlying47 Tryz.infoFact rfl (by decide) rfl hl6 rfl hsrc (unhide HONE) (by unfold maxLen; simp; omega) (by simp; omega) hsz ?_)
      intro v7 w7 hv7 hg7
      have hgc7:=gr_app (gr_trans hgc5 hgB) hg7 (fun x hx=>(hso x hx).1)
      have ha7:=hv6.row hg7 hro (by decide)
      obtain ⟨ao7,cap7,rfl⟩:=hv7.slice
      rw [List.length_append,List.length_singleton] at ha7
      clear hgB hl5 hl6 hv5 hv6 hsrc HONE hsz hso hro hg7 hgc5 y15 t15 t25
      go_wp2
      go_roundw
      case rel=>exact ⟨i+1,by omega,by go_num,hgc7,by rw [unhide HE1]; exact ha7,by rw [unhide HE2]; exact hv7⟩
      case measure=>simp [intOf]; omega
    · have hdi:decide (i < L.length)=false:=by simpa using hlt
      have hall:L.take i=L:=List.take_of_length_le (by omega)
      rw [hall] at ha hl
      have y1':=hg.cell y1 (by simp)
      clear hall
      obtain ⟨aoA,capA,rfl⟩:=ha.slice
      obtain ⟨aoB,capB,rfl⟩:=hl.slice
      go_wp2
      go_ret2
      exact ⟨_,_,rfl,ha,hl,hg⟩
theorem YAt.set2 {y:Nat} {rv lv cv fv:Value} {rs:List Sv.Rule} {L:List VTh} {w:World} (h:YAt y rv lv cv fv rs L w) (u:Value):YAt y rv lv u fv rs L (w.setCell ⟨y,2,none⟩ u):=by
  have hg:=gr_set w y 2 u
  refine ⟨?_,h.rules.row hg h.rowOk (by decide) (by decide) (by decide),h.facts.row hg h.rowOk (by decide),fun t ht=>⟨(h.vals t ht).1.row hg h.rowOk (by decide),(h.vals t ht).2⟩⟩
  rw [heap_setCell_same w y 2 _ _ _ h.blk]
  rfl
theorem YAt.push {y:Nat} {rv lv cv fv:Value} {rs:List Sv.Rule} {L:List VTh} {W w5:World} {th:VTh} {nv:Value} (hy:YAt y rv lv cv fv rs L W) (ht:IsAt 0 th.v th.vals W) (ht4:th.vals.length≤4)
    (hv:RowAt 176 3 thenc 0 nv (L ++ [th]) w5) (hg:W.grownBy w5 lv.ownBlock) :
    w5.cell? ⟨y,1,none⟩=some lv∧w5.frozen? ⟨y,1,none⟩=false∧W.grownBy w5 lv.ownBlock∧RowOk 0 176 lv.ownBlock W∧RowOk 0 172 (some y) w5∧YAt y rv nv cv fv rs (L ++ [th]) (w5.setCell ⟨y,1,none⟩ nv):=by
  have hrow:=RowOk.of hy.facts.2
  have hne:some y≠lv.ownBlock:=by
    intro e
    obtain ⟨_,cur,fz,h⟩:=hrow y e.symm
    rw [hy.blk] at h
    simp at h
  have hb:w5.heap[y]?=some (.cells #[rv,lv,cv,fv] 172 (0,0)):=by rw [hg.block y (row_lt hy.blk) hne]; exact hy.blk
  have hro:=RowOk.blk hb
  have hgs:=gr_set w5 y 1 nv
  refine ⟨by simp [World.cell?,hb],by simp [World.frozen?,hb],hg,hrow,hro,?_,?_,?_,?_⟩
  · rw [heap_setCell_same w5 y 1 _ _ _ hb]
    rfl
  · exact (hy.rules.row hg hrow (by decide) (by decide) (by decide)).row hgs hro (by decide) (by decide) (by decide)
  · exact hv.row hgs hro (by decide)
  · intro t htm
    rcases List.mem_append.1 htm with h | h
    · exact ⟨(((hy.vals t h).1).row hg hrow (by decide)).row hgs hro (by decide),(hy.vals t h).2⟩
    · simp only [List.mem_singleton] at h
      subst h
      exact ⟨(ht.row hg hrow (by decide)).row hgs hro (by decide),ht4⟩
def AddOk (y:Nat) (rv lv:Value) (cnt:Int) (rs:List Sv.Rule) (L:List VTh) (fd:List VMt) (f:Sv.Fact) (w:World) (e:Ending) (w':World):Prop:=
  e=.returned (.tuple #[.int .i64 (cnt+1),.int .i64 0])∧GrS (fun k=>k=y∨lv.ownBlock=some k) w w'∧
    ∃ lv' fv' t fd',t.id=cnt+1∧t.kind=f.kind∧t.vals=f.vals∧YAt y rv lv' (.int .i64 (cnt+1)) fv' rs (L ++ [t]) w'∧MsAt 0 fv' fd' w'∧
      fd'.map VMt.of=Sv.keepF (Sv.matches rs ((L ++ [t]).map VTh.of)) (fd.map VMt.of)∧(∀ m∈fd',m∈fd)∧
      (∀ g,lv'.ownBlock=some g→lv.ownBlock=some g∨w.heap.size≤g)∧(∀ g,t.v.ownBlock=some g→w.heap.size≤g)∧(∀ g,fv'.ownBlock=some g→w.heap.size≤g)
set_option maxRecDepth 100000 in
set_option maxHeartbeats 1000000 in
theorem vAdd_no (y:Nat) (rv lv cv fv:Value) (rs:List Sv.Rule) (L:List VTh) (f:Sv.Fact) (fa:Option Addr) (fc:Nat) (w:World) (hy:YAt y rv lv cv fv rs L w) (hL:L.length≤16) (hf:InAt (.slice fa f.vals.length fc) f.vals w) (hn:Sv.factOk f=false∨16≤L.length) :
    Calls Tryz.prog 80 #[.pointer (some ⟨y,0,none⟩),.agg #[.int .i64 f.kind,.slice fa f.vals.length fc]] w fun e w'=>e=.returned (.tuple #[.int .i64 0,.int .i64 (if Sv.factOk f=false then 3 else 4)])∧w.grownBy w' none:=by
  have hgA:=World.grownBy_alloc w (.cells #[.int .i64 f.kind,.slice fa f.vals.length fc] 37) none
  have hF:C2 37 w.heap.size (.int .i64 f.kind) (.slice fa f.vals.length fc) (w.alloc (.cells #[.int .i64 f.kind,.slice fa f.vals.length fc] 37)):=heap_alloc_new _ _
  obtain ⟨aoL,capL,rfl⟩:=hy.facts.slice
  obtain ⟨y0,y1,y2,y3⟩:=hy.c
  have hV:=vfact_w f fa fc _ (hf.gr hgA) hf.le
  clear hy y0 y2 y3 hf
  obtain ⟨d,hd⟩:∃ d,Sv.factOk f=d:=⟨_,rfl⟩
  rw [hd] at hV hn ⊢
  clear hd
  cases d
  · clear hn
    go_enter Tryz.func80,Tryz.ntmps80
    go_wp2_with fail
    refine hV.mono ?_
    rintro e w1 ⟨rfl,hg1⟩
    go_wp2
    go_ret2
    exact ⟨rfl,gr_trans hgA hg1⟩
  · have h16:16≤L.length:=by simpa using hn
    have hd2:decide ((16:Int)≤(L.length:Int))=true:=by simp; omega
    clear hn
    go_enter Tryz.func80,Tryz.ntmps80
    go_wp2_with fail
    refine hV.mono ?_
    rintro e w1 ⟨rfl,hg1⟩
    have y12:=(gr_trans hgA hg1).cell y1 (by simp)
    go_wp2
    go_ret2
    exact ⟨rfl,gr_trans hgA hg1⟩
set_option maxRecDepth 100000 in
set_option maxHeartbeats 1000000 in
theorem vAdd_yes (y:Nat) (rv lv fv:Value) (cnt:Int) (hc0:0≤cnt) (hc1:cnt≤4611686018427387904) (rs:List Sv.Rule) (L:List VTh) (fd:List VMt) (f:Sv.Fact) (fa:Option Addr) (fc:Nat) (w:World) (hy:YAt y rv lv (.int .i64 cnt) fv rs L w) (hok:Sv.RsOk rs) (hL:L.length < 16) (hfd:MsAt 0 fv fd w) (hfb:fd.length≤1000000) (hf:InAt (.slice fa f.vals.length fc) f.vals w) (hfy:f.vals≠[]→(Value.slice fa f.vals.length fc).ownBlock≠some y) (hn:Sv.factOk f=true) :
    Calls Tryz.prog 80 #[.pointer (some ⟨y,0,none⟩),.agg #[.int .i64 f.kind,.slice fa f.vals.length fc]] w fun e w'=>AddOk y rv lv cnt rs L fd f w e w':=by
  have h4:f.vals.length≤4:=by
    unfold Sv.factOk at hn
    simp at hn
    omega
  have hgA:=World.grownBy_alloc w (.cells #[.int .i64 f.kind,.slice fa f.vals.length fc] 37) none
  have hF:C2 37 w.heap.size (.int .i64 f.kind) (.slice fa f.vals.length fc) (w.alloc (.cells #[.int .i64 f.kind,.slice fa f.vals.length fc] 37)):=heap_alloc_new _ _
  obtain ⟨aoL,capL,rfl⟩:=hy.facts.slice
  have hylt:y < w.heap.size:=row_lt hy.blk
  have hV:=vfact_w f fa fc _ (hf.gr hgA) hf.le
  rw [hn] at hV
  have hd2:decide ((16:Int)≤(L.length:Int))=false:=by simp; omega
  have HY:=hide hy
  have HO:=hide hok
  have HFD:=hide hfd
  have HF:=hide hf
  have HFY:=hide hfy
  clear hy hf hfy hfd hok hn
  go_enter Tryz.func80,Tryz.ntmps80
  go_wp2_with fail
  refine hV.mono ?_
  rintro e w1 ⟨rfl,hg1⟩
  have hg01:=gr_trans hgA hg1
  have hy1:=(unhide HY).gr hg01
  have hF1:=hF.kept hg1 (by simp)
  obtain ⟨y0,y1,y2,y3⟩:=hy1.c
  have z2:=hy1.fz 2
  obtain ⟨f0,f1⟩:=hF1.c
  have f02:(w1.setCell ⟨y,2,none⟩ (.int .i64 (cnt+1))).cell? ⟨w.heap.size,0,none⟩=some (.int .i64 f.kind):=(gr_set w1 y 2 _).cell f0 (by simp; omega)
  have f12:(w1.setCell ⟨y,2,none⟩ (.int .i64 (cnt+1))).cell? ⟨w.heap.size,1,none⟩=some (.slice fa f.vals.length fc):=(gr_set w1 y 2 _).cell f1 (by simp; omega)
  clear hV hgA hF hg1
  have hgs:=gr_set w1 y 2 (.int .i64 (cnt+1))
  have hy2:=hy1.set2 (.int .i64 (cnt+1))
  have hf2:=((unhide HF).gr hg01).kept' hgs (fun hne g hg e=>unhide HFY hne (by rw [hg,←e]))
  have hfd2:=((unhide HFD).gr hg01).ybl hy1 hgs
  have hG2:GrS (fun k=>k=y∨(Value.slice aoL L.length capL).ownBlock=some k) w (w1.setCell ⟨y,2,none⟩ (.int .i64 (cnt+1))):=(GrS.of hg01 (by simp)).then hgs (fun g hg=>by simp at hg; exact .inr (.inl hg.symm))
  have HC:=vcopied_w f fa fc _ hf2 h4
  go_wp2_with fail
  refine HC.mono ?_
  rintro e w3 ⟨ao,cap,rfl,hg3,hv3⟩
  have hy3:=hy2.gr hg3
  have hfd3:=hfd2.gr hg3
  have hG3:=hG2.then hg3 (by simp)
  have hv3':=hv3.own
  have hs1a:=hg01.size
  clear hgs hy2 hf2 hfd2 HC hg3 hg01 hy1 hF1 y0 y1 y2 y3 z2 f0 f1 f02 f12 hG2
  have hgA:=World.grownBy_alloc w3 (.cells #[.int .i64 f.kind,.slice ao f.vals.length cap] 37) none
  have hy4:=hy3.gr hgA
  obtain ⟨y0,y1,y2,y3⟩:=hy4.c
  have hN7:C2 37 w3.heap.size (.int .i64 f.kind) (.slice ao f.vals.length cap) (w3.alloc (.cells #[.int .i64 f.kind,.slice ao f.vals.length cap] 37)):=heap_alloc_new _ _
  obtain ⟨n0,n1⟩:=hN7.c
  have y1b:=(hy4.gr (World.grownBy_alloc (w3.alloc (.cells #[.int .i64 f.kind,.slice ao f.vals.length cap] 37)) (.cells #[.int .i64 (cnt+1),.int .i64 f.kind,.slice ao f.vals.length cap] 176) none)).c.2.1
  obtain ⟨th,hth⟩:∃ th:VTh,th=⟨cnt+1,f.kind,.slice ao f.vals.length cap,f.vals⟩:=⟨_,rfl⟩
  have hgB:=gr_drew (World.grownBy_alloc (w3.alloc (.cells #[.int .i64 f.kind,.slice ao f.vals.length cap] 37)) (.cells #[.int .i64 (cnt+1),.int .i64 f.kind,.slice ao f.vals.length cap] 176) none)
  have hy5:=hy4.gr hgB
  have hG5:=(hG3.then hgA (by simp)).then hgB (by simp)
  have hfd5:=(hfd3.gr hgA).gr hgB
  have hv5:=(hv3.gr hgA).gr hgB
  have hsrc:RowAt 176 3 thenc 0 _ [th] ((w3.alloc (.cells #[.int .i64 f.kind,.slice ao f.vals.length cap] 37)).alloc (.cells #[.int .i64 (cnt+1),.int .i64 f.kind,.slice ao f.vals.length cap] 176)).drew:=
    ((RowAt.lit1 thenc_len (w3.alloc (.cells #[.int .i64 f.kind,.slice ao f.vals.length cap] 37)) th #[.int .i64 (cnt+1),.int .i64 f.kind,.slice ao f.vals.length cap] (by rw [hth]; rfl)).weak (Nat.zero_le _)).heap rfl
  have hszE:(w3.alloc (.cells #[.int .i64 f.kind,.slice ao f.vals.length cap] 37)).heap.size=w3.heap.size+1:=by simp
  rw [hszE] at hsrc
  have hone:∀ k∈[th],∀ c∈thenc k,c.oneCell'=true:=by
    intro k hk
    simp only [List.mem_singleton] at hk
    subst hk
    intro c hc
    rw [hth] at hc
    simp [thenc] at hc
    rcases hc with rfl | rfl | rfl<;>rfl
  have hb1:L.length + [th].length≤maxLen:=by unfold maxLen; simp; omega
  have hb2:(L.length + [th].length) * 40≤140737488355328:=by simp; omega
  have HONE:=hide hone
  have HB1:=hide hb1
  have HB2:=hide hb2
  have hrow:=RowOk.of hy5.facts.2
  have hylt3:y≠w3.heap.size:=by have:=hG3.size; omega
  have HTH:=hide hth
  clear hone hb1 hb2 hszE hth
  obtain ⟨W5,hW5⟩:∃ W5,((w3.alloc (.cells #[.int .i64 f.kind,.slice ao f.vals.length cap] 37)).alloc (.cells #[.int .i64 (cnt+1),.int .i64 f.kind,.slice ao f.vals.length cap] 176)).drew=W5:=⟨_,rfl⟩
  rw [hW5] at hy5 hG5 hfd5 hv5 hsrc hrow
  have HW5:=hide hW5
  clear hW5
  have htv:IsAt 0 th.v th.vals W5:=by rw [unhide HTH]; exact hv5.weak (Nat.zero_le _)
  have ht4:th.vals.length≤4:=by rw [unhide HTH]; exact h4
  have hKey:∀ g5 cap5 w5,RowAt 176 3 thenc 0 (.slice (some ⟨g5,0,none⟩) (L ++ [th]).length cap5) (L ++ [th]) w5→W5.grownBy w5 (Value.slice aoL L.length capL).ownBlock→((Value.slice aoL L.length capL).ownBlock=some g5∨g5=W5.heap.size)→
      w5.cell? ⟨y,1,none⟩=some (.slice aoL L.length capL)∧w5.frozen? ⟨y,1,none⟩=false∧
      (∃ lv',(YAt y rv lv' (.int .i64 (cnt+1)) fv rs (L ++ [th]) (w5.setCell ⟨y,1,none⟩ (.slice (some ⟨g5,0,none⟩) (L.length+1) cap5))∧
       GrS (fun k=>k=y∨(Value.slice aoL L.length capL).ownBlock=some k) w (w5.setCell ⟨y,1,none⟩ (.slice (some ⟨g5,0,none⟩) (L.length+1) cap5))∧MsAt 0 fv fd (w5.setCell ⟨y,1,none⟩ (.slice (some ⟨g5,0,none⟩) (L.length+1) cap5))∧
       ∀ g,lv'.ownBlock=some g→(Value.slice aoL L.length capL).ownBlock=some g∨w.heap.size≤g)):=by
    intro g5 cap5 w5 hv hg hl
    rw [List.length_append,List.length_singleton] at hv
    obtain ⟨k1,k2,k3,k4,k5,k6⟩:=hy5.push htv ht4 hv hg
    have hgs:=gr_set w5 y 1 (.slice (some ⟨g5,0,none⟩) (L.length+1) cap5)
    refine ⟨k1,k2,_,k6,(hG5.then hg (fun g hgg=>.inr (.inr hgg))).then hgs (fun g hgg=>by simp at hgg; exact .inr (.inl hgg.symm)),?_,?_⟩
    · exact ⟨(hfd5.1.row hg k4 (by decide)).row hgs k5 (by decide),fun m hm=>((hfd5.2 m hm).row hg k4 (by decide)).row hgs k5 (by decide)⟩
    · intro g hgg
      simp only [Value.ownBlock,Option.some.injEq] at hgg
      subst hgg
      rcases hl with hl | hl
      · exact .inl hl
      · right
        have:=hG5.size
        omega
  have HKEY:=hide hKey
  have HSRC:=hide hsrc
  have HY5:=hide hy5
  clear hKey hsrc hy5 hG5 hfd5 hv5 hrow htv ht4 hgB
  go_wp2_with fail
  go_cut [] (fun wx=>∃ lv',(YAt y rv lv' (.int .i64 (cnt+1)) fv rs (L ++ [th]) wx∧GrS (fun k=>k=y∨(Value.slice aoL L.length capL).ownBlock=some k) w wx∧MsAt 0 fv fd wx∧∀ g,lv'.ownBlock=some g→(Value.slice aoL L.length capL).ownBlock=some g∨w.heap.size≤g))
  case first=>
    go_region_law (rw [unhide HW5]; refine app_lies rfl _ _ 170 rfl Tryz.underlying170 Tryz.infoThere rfl (by decide) (by simp [Act.eval]) (unhide HY5).facts (by simp [Act.eval]) (unhide HSRC) (by simp) (unhide HONE) (unhide HB1) (unhide HB2) (Nat.zero_le _) ?_; intro g5 cap5 w5 hv5 hg5 hl5; obtain ⟨k1,k2,k3⟩:=unhide HKEY g5 cap5 w5 hv5 hg5 hl5; have K3:=hide k3; clear k3)
    all_goals
      go_wp2_with fail
      go_meet
      exact unhide K3
  case rest=>
    obtain ⟨lv',hy6,hG6,hfd6,hlv6⟩:=hcut
    have hL16:(L ++ [th]).length≤16:=by simp; omega
    have hV:=vforget_w y rv lv' _ fv rs (L ++ [th]) fd wc hy6 (unhide HO) hL16 hfd6 hfb
    have hs6:=hG6.size
    have hs1:w.heap.size≤w1.heap.size:=hs1a
    clear hL16 y0 y1 y1b y2 y3 n0 n1 hN7 hy4 hgA
    go_wp2_with fail
    refine hV.mono ?_
    rintro e w7 ⟨rfl,hg7,fv',fd',hy7,hfd7,hmap,hsub,hnew⟩
    obtain ⟨y0,y1,y2,y3⟩:=hy7.c
    have HMAP:=hide hmap
    have HSUB:=hide hsub
    have HNEW:=hide hnew
    clear hmap hsub hnew hV
    go_wp2
    go_ret2
    refine ⟨rfl,hG6.then hg7 (fun g hg=>by simp at hg; exact .inr (.inl hg.symm)),lv',fv',th,fd',by rw [unhide HTH],by rw [unhide HTH],by rw [unhide HTH],hy7,hfd7,unhide HMAP,unhide HSUB,hlv6,?_,fun g hg=>Nat.le_trans hs6 (unhide HNEW g hg)⟩
    rw [unhide HTH]
    intro g hg
    have h1:=(hv3' g hg).1
    have h2:w1.heap.size=(w1.setCell ⟨y,2,none⟩ (.int .i64 (cnt+1))).heap.size:=by simp [World.setCell]
    omega
end Go.Proofs.YtolhbeekfjnfmaaGreatDoor
namespace Go.Proofs.YtolhbeekfjnfmaaGreatDoor
open Go.RowKit
set_option maxRecDepth 100000 in
set_option maxHeartbeats 1000000 in
theorem sameN_w (a b:List Int) (u v:Value) (w:World) (ha:IsAt 0 u a w) (hb:IsAt 0 v b w) :
    Calls Tryz.prog 82 #[u,v] w fun e w'=>e=.returned (.bool (decide (a=b)))∧w.grownBy w' none:=by
  obtain ⟨aa,ac,rfl⟩:=ha.slice
  obtain ⟨ba,bc,rfl⟩:=hb.slice
  have hla:=ha.le
  unfold maxLen at hla
  by_cases hl:a.length=b.length
  · have hd2:((a.length:Int) != (b.length:Int))=false:=by simp; omega
    have HL:=hide hl
    have HA:=hide ha
    have HB:=hide hb
    obtain ⟨R,hR⟩:∃ R,decide (a=b)=R:=⟨_,rfl⟩
    rw [hR]
    have HR:=hide hR
    clear hl ha hb hR
    go_enter Tryz.func82,Tryz.ntmps82
    go_wp2
    go_loopw [5] (fun x w'=>∃ i:Nat,i≤a.length∧x=.int .i64 i∧w.grownBy w' none∧decide (a.drop i=b.drop i)=R) (fun x _=>a.length - (intOf x).toNat)
    case atStart=>exact ⟨0,Nat.zero_le _,rfl,World.grownBy.refl _ _,unhide HR⟩
    case round=>
      clear HR
      obtain ⟨i,hi,rfl,hg,hR⟩:=hrel
      by_cases hlt:i < a.length
      · have hdi:decide (i < a.length)=true:=by simpa using hlt
        have hL:=unhide HL
        have hltb:i < b.length:=by omega
        obtain ⟨x,hx⟩:∃ x,a[i]?=some x:=⟨a[i],List.getElem?_eq_getElem hlt⟩
        obtain ⟨y,hy⟩:∃ y,b[i]?=some y:=⟨b[i],List.getElem?_eq_getElem hltb⟩
        rw [drop_get hx,drop_get hy,dec_drop] at hR
        obtain ⟨g,cp,hv,hcs⟩:=((unhide HA).gr hg).cells hx
        obtain ⟨g2,cp2,hv2,hcs2⟩:=((unhide HB).gr hg).cells hy
        simp only [Value.slice.injEq,true_and] at hv hv2
        obtain ⟨rfl,rfl⟩:=hv
        obtain ⟨rfl,rfl⟩:=hv2
        have x0:wr.cell? ⟨g,i,none⟩=some (.int .i64 x):=by have:=hcs 0 (by omega); simpa [ienc] using this
        have y0:wr.cell? ⟨g2,i,none⟩=some (.int .i64 y):=by have:=hcs2 0 (by omega); simpa [ienc] using this
        clear hcs hcs2 hx hy hL
        by_cases hxy:x=y
        · have hdx:(x != y)=false:=by simpa using hxy
          have e2:decide (x=y)=true:=by simpa using hxy
          rw [e2,Bool.true_and] at hR
          have HR:=hide hR
          clear hR e2 hxy
          go_wp2
          go_quiet (fail)
          go_wp2
          go_roundw
          case rel=>exact ⟨i+1,by omega,by go_num,gr_trans hg (gr_drewN _ _ _),unhide HR⟩
          case measure=>simp [intOf]; omega
        · have hdx:(x != y)=true:=by simpa using hxy
          have e2:decide (x=y)=false:=by simpa using hxy
          rw [e2,Bool.false_and] at hR
          subst hR
          clear e2 hxy
          go_wp2
          go_quiet (fail)
          go_wp2
          go_ret
          exact ⟨rfl,gr_trans hg (gr_drewN _ _ _)⟩
      · have hdi:decide (i < a.length)=false:=by simpa using hlt
        have hL:=unhide HL
        rw [List.drop_of_length_le (by omega),List.drop_of_length_le (by omega)] at hR
        have hR2:true=R:=by simpa using hR
        subst hR2
        clear hR hL
        go_wp2
        go_ret
        exact ⟨rfl,hg⟩
  · have hd2:((a.length:Int) != (b.length:Int))=true:=by simp; omega
    have e1:decide (a=b)=false:=by
      simp only [decide_eq_false_iff_not]
      intro h
      exact hl (by rw [h])
    rw [e1]
    clear e1 hl ha hb
    go_enter Tryz.func82,Tryz.ntmps82
    go_wp2
    go_ret
    exact ⟨rfl,World.grownBy.refl _ _⟩
theorem dec_dropM {x y:Int×List Int} {a b:List (Int×List Int)}:decide (x :: a=y :: b)=(decide (x=y) && decide (a=b)):=by
  by_cases h1:x=y<;>by_cases h2:a=b<;>simp [h1,h2]
set_option maxRecDepth 100000 in
set_option maxHeartbeats 1000000 in
theorem sameM_w (a b:List VMt) (u v:Value) (w:World) (ha:MsAt 0 u a w) (hb:MsAt 0 v b w) :
    Calls Tryz.prog 57 #[u,v] w fun e w'=>e=.returned (.bool (decide (a.map VMt.of=b.map VMt.of)))∧w.grownBy w' none:=by
  obtain ⟨aa,ac,rfl⟩:=ha.slice
  obtain ⟨ba,bc,rfl⟩:=hb.slice
  have hla:=ha.1.le
  unfold maxLen at hla
  by_cases hl:a.length=b.length
  · have hd2:((a.length:Int) != (b.length:Int))=false:=by simp; omega
    have HL:=hide hl
    have HA:=hide ha
    have HB:=hide hb
    obtain ⟨R,hR⟩:∃ R,decide (a.map VMt.of=b.map VMt.of)=R:=⟨_,rfl⟩
    rw [hR]
    have HR:=hide hR
    clear hl ha hb hR
    go_enter Tryz.func57,Tryz.ntmps57
    go_wp2
    go_loopw [5] (fun x w'=>∃ i:Nat,i≤a.length∧x=.int .i64 i∧w.grownBy w' none∧decide ((a.drop i).map VMt.of=(b.drop i).map VMt.of)=R) (fun x _=>a.length - (intOf x).toNat)
    case atStart=>exact ⟨0,Nat.zero_le _,rfl,World.grownBy.refl _ _,unhide HR⟩
    case round=>
      clear HR
      obtain ⟨i,hi,rfl,hg,hR⟩:=hrel
      by_cases hlt:i < a.length
      · have hdi:decide (i < a.length)=true:=by simpa using hlt
        have hL:=unhide HL
        have hltb:i < b.length:=by omega
        obtain ⟨x,hx⟩:∃ x,a[i]?=some x:=⟨a[i],List.getElem?_eq_getElem hlt⟩
        obtain ⟨y,hy⟩:∃ y,b[i]?=some y:=⟨b[i],List.getElem?_eq_getElem hltb⟩
        rw [drop_get hx,drop_get hy,List.map_cons,List.map_cons,dec_dropM,dec_of] at hR
        obtain ⟨g,cp,hv,hcs⟩:=((unhide HA).1.gr hg).cells hx
        obtain ⟨g2,cp2,hv2,hcs2⟩:=((unhide HB).1.gr hg).cells hy
        simp only [Value.slice.injEq,true_and] at hv hv2
        obtain ⟨rfl,rfl⟩:=hv
        obtain ⟨rfl,rfl⟩:=hv2
        have x0:wr.cell? ⟨g,i * 2,none⟩=some (.int .i64 x.rule):=hcs 0 (by omega)
        have x1:wr.cell? ⟨g,i * 2+1,none⟩=some x.v:=hcs 1 (by omega)
        have y0:wr.cell? ⟨g2,i * 2,none⟩=some (.int .i64 y.rule):=hcs2 0 (by omega)
        have y1:wr.cell? ⟨g2,i * 2+1,none⟩=some y.v:=hcs2 1 (by omega)
        have hxi:=(unhide HA).2 x (List.mem_of_getElem? hx)
        have hyi:=(unhide HB).2 y (List.mem_of_getElem? hy)
        have hS:=fun (W:World) (hW:wr.grownBy W none)=>sameN_w x.ids y.ids x.v y.v W (hxi.gr (gr_trans hg hW)) (hyi.gr (gr_trans hg hW))
        obtain ⟨xa,xc,hxv⟩:=hxi.slice
        obtain ⟨ya,yc,hyv⟩:=hyi.slice
        rw [hxv] at x1
        rw [hyv] at y1
        rw [hxv,hyv] at hS
        obtain ⟨d,hd⟩:∃ d,decide (x.ids=y.ids)=d:=⟨_,rfl⟩
        rw [hd] at hR hS
        have HR:=hide hR
        clear hR hd hcs hcs2 hx hy hL hxi hyi hxv hyv
        go_wp2_with fail
        go_cut [6] (fun s wx=>s=.bool d∧wr.grownBy wx none)
        case first=>
          go_region_with (go_at_call 82; refine (hS _ (by repeat (first | exact World.grownBy.refl _ _ | apply gr_drew))).mono ?_; rintro e w2 ⟨rfl,hg2⟩)
          all_goals
            go_wp2_with fail
            go_meet
            exact ⟨rfl,gr_trans (gr_drew (World.grownBy.refl _ _)) hg2⟩
        case rest=>
          obtain ⟨rfl,hg2⟩:=hcut
          have hgc:=gr_trans hg hg2
          have x02:=hg2.cell x0 (by simp)
          have y02:=hg2.cell y0 (by simp)
          clear hS hg2 x0 x1 y0 y1
          have hRR:=unhide HR
          clear HR
          cases d
          · rw [Bool.and_false,Bool.false_and] at hRR
            subst hRR
            go_wp2
            go_quiet (fail)
            go_wp2
            go_ret
            exact ⟨rfl,gr_trans hgc (gr_drewN _ _ _)⟩
          · rw [Bool.and_true] at hRR
            by_cases hxy:x.rule=y.rule
            · have hdx:(x.rule != y.rule)=false:=by simpa using hxy
              have e2:decide (x.rule=y.rule)=true:=by simpa using hxy
              rw [e2,Bool.true_and] at hRR
              have HR:=hide hRR
              clear hRR e2 hxy
              go_wp2
              go_quiet (fail)
              go_wp2
              go_roundw
              case rel=>exact ⟨i+1,by omega,by go_num,gr_trans hgc (gr_drewN _ _ _),unhide HR⟩
              case measure=>simp [intOf]; omega
            · have hdx:(x.rule != y.rule)=true:=by simpa using hxy
              have e2:decide (x.rule=y.rule)=false:=by simpa using hxy
              rw [e2,Bool.false_and] at hRR
              subst hRR
              clear e2 hxy
              go_wp2
              go_quiet (fail)
              go_wp2
              go_ret
              exact ⟨rfl,gr_trans hgc (gr_drewN _ _ _)⟩
      · have hdi:decide (i < a.length)=false:=by simpa using hlt
        have hL:=unhide HL
        rw [List.drop_of_length_le (by omega),List.drop_of_length_le (by omega)] at hR
        have hR2:true=R:=by simpa using hR
        subst hR2
        clear hR hL
        go_wp2
        go_ret
        exact ⟨rfl,hg⟩
  · have hd2:((a.length:Int) != (b.length:Int))=true:=by simp; omega
    have e1:decide (a.map VMt.of=b.map VMt.of)=false:=by
      simp only [decide_eq_false_iff_not]
      intro h
      have:=congrArg List.length h
      simp only [List.length_map] at this
      exact hl this
    rw [e1]
    clear e1 hl ha hb
    go_enter Tryz.func57,Tryz.ntmps57
    go_wp2
    go_ret
    exact ⟨rfl,World.grownBy.refl _ _⟩
end Go.Proofs.YtolhbeekfjnfmaaGreatDoor
namespace Go.Proofs.YtolhbeekfjnfmaaGreatDoor
end Go.Proofs.YtolhbeekfjnfmaaGreatDoor
namespace Go.Proofs.YtolhbeekfjnfmaaGreatDoor
open Go.RowKit
theorem rep_snoc (n:Nat) (m:Int) (j:Nat):List.replicate n m ++ List.replicate j m=List.replicate (n+j) m:=by rw [List.replicate_append_replicate]
theorem rep_set (m:Int) (l:List Int) (i:Nat) (h:i < l.length):(List.replicate i m ++ l.drop i).set i m=List.replicate (i+1) m ++ l.drop (i+1):=by
  have e:l.drop i=l[i] :: l.drop (i+1):=List.drop_eq_getElem_cons h
  rw [e,List.set_append_right _ _ (by simp)]
  simp [List.replicate_succ']
  rw [e]
  rfl
theorem ienc_set (l:List Int) (i:Nat) (x:Int):(l.set i x).flatMap ienc=(l.flatMap ienc).set i (.int .i64 x):=by
  induction l generalizing i with
  | nil=>simp
  | cons a l ih=>
    cases i with
    | zero=>simp [ienc]
    | succ i=>simp [ienc] at ih ⊢; exact ih i
theorem IsAt.stored {base g n cap:Nat} {l:List Int} {w:World} (h:IsAt base (.slice (some ⟨g,0,none⟩) n cap) l w) (i:Nat) (x:Int):IsAt base (.slice (some ⟨g,0,none⟩) n cap) (l.set i x) (w.setCell ⟨g,i,none⟩ (.int .i64 x)):=by
  have hn:=h.len
  subst hn
  have h1:=(World.ownsRow.stored h.2 i (.int .i64 x)).1
  refine ⟨h.1,?_⟩
  rw [List.length_set,ienc_set]
  exact h1
def Kin (v v1:Value) (n j:Nat):Prop:=
  (∃ g cap,v=.slice (some ⟨g,0,none⟩) n cap∧v1=.slice (some ⟨g,0,none⟩) (n+j) cap)∨(∀ g,v1.ownBlock=some g→v.ownBlock≠some g)
theorem Longer.kin {v v1:Value} {n j:Nat} {w w':World} (h:Longer v v1 n j w w') (hv:∀ g,v.ownBlock=some g→g < w.heap.size):Kin v v1 n j:=by
  rcases h with ⟨g,cap,h1,h2,_⟩ | ⟨_,g,cap,h1,h2⟩
  · exact .inl ⟨g,cap,h1,h2⟩
  · refine .inr (fun g' hg' e=>?_)
    rw [h1] at hg'
    simp only [Value.ownBlock,Option.some.injEq] at hg'
    have:=hv g' e
    omega
theorem Kin.keep {v v1 v2:Value} {n j j2:Nat} {w w':World} {m:Int} (hk:Kin v v1 n j) (h1:IsAt 0 v1 (List.replicate (n+j) m) w) (h2:IsAt 0 v2 (List.replicate (n+j2) m) w') (hl:Longer v v2 n j2 w w') (hj:j≤j2):IsAt 0 v1 (List.replicate (n+j) m) w':=by
  rcases hl with ⟨g,cap,e1,e2,hg⟩ | ⟨hg,_⟩
  · rcases hk with ⟨g',cap',e3,e4⟩ | hne
    · rw [e1] at e3
      simp only [Value.slice.injEq,Option.some.injEq,Addr.mk.injEq,and_true,true_and] at e3
      obtain ⟨rfl,rfl⟩:=e3
      rw [e2] at h2
      have e5:List.replicate (n+j2) m=List.replicate (n+j) m ++ List.replicate (j2 - j) m:=by rw [rep_snoc]; congr 1; omega
      rw [e5] at h2
      have h3:=h2.prefix
      rw [List.length_replicate] at h3
      rw [e4]
      exact h3
    · refine h1.other hg (fun g' hg' e=>?_)
      have:=hne g' hg'
      rw [e1] at this
      exact this (by rw [←e]; rfl)
  · exact h1.gr hg
theorem kin_self (v:Value) (n:Nat) {w:World} {m:Int} (h:IsAt 0 v (List.replicate n m) w):Kin v v n 0:=by
  rcases h.2.2 with ⟨h1,_⟩ | ⟨g,cap,cur,h1,_⟩
  · right
    intro g hg
    rw [h1] at hg
    simp [Value.ownBlock] at hg
  · left
    rw [List.length_replicate] at h1
    exact ⟨g,cap,h1,h1⟩
theorem Longer.keepRow {α:Type} {e:TypeId} {size:Nat} {enc:α→List Value} {base:Nat} {x:Value} {l:List α} {v v':Value} {n j:Nat} {w w':World} (hl:Longer v v' n j w w') (h:RowAt e size enc base x l w) (hne:∀ g,x.ownBlock=some g→v.ownBlock≠some g):RowAt e size enc base x l w':=by
  rcases hl with ⟨g,cap,e1,_,hg⟩ | ⟨hg,_⟩
  · exact h.other hg (fun g' hg' e=>hne g' hg' (by rw [e1]; exact e))
  · exact h.gr hg
def WBlk (W:Nat) (c:Array Value) (w:World):Prop:=w.heap[W]?=some (.cells c 73 (0,0))
def NumsAt (T:Nat→Nat) (uv k0:Value) (us:List (Value×Int)) (w:World):Prop:=
  TRow T 3 35 1 (fun p:Value×Int=>[p.1]) uv us w∧TRow T 6 3 1 ienc k0 (us.map Prod.snd) w∧∀ p∈us,∃ n,TRow T 10 3 1 ienc p.1 (List.replicate n p.2) w
end Go.Proofs.YtolhbeekfjnfmaaGreatDoor
namespace Go.Proofs.YtolhbeekfjnfmaaGreatDoor
open Go.RowKit
theorem WBlk.cell {W:Nat} {c:Array Value} {w:World} (h:WBlk W c w) (k:Nat):w.cell? ⟨W,k,none⟩=c[k]?:=by
  unfold WBlk at h
  simp [World.cell?,h]
theorem WBlk.fz {W:Nat} {c:Array Value} {w:World} (h:WBlk W c w) (k:Nat):w.frozen? ⟨W,k,none⟩=false:=by
  unfold WBlk at h
  simp [World.frozen?,h]
theorem WBlk.set {W:Nat} {c:Array Value} {w:World} (h:WBlk W c w) (k:Nat) (v:Value):WBlk W (c.setIfInBounds k v) (w.setCell ⟨W,k,none⟩ v):=by
  unfold WBlk at h ⊢
  exact heap_setCell_same w W k _ _ _ h
theorem WBlk.gr {W:Nat} {c:Array Value} {w w':World} {row:Option Nat} (h:WBlk W c w) (hg:w.grownBy w' row) (hr:row≠some W):WBlk W c w':=by
  unfold WBlk at h ⊢
  rw [hg.block W (row_lt h) (fun e=>hr e.symm)]
  exact h
theorem WBlk.grs {W:Nat} {c:Array Value} {w w':World} {S:Nat→Prop} (h:WBlk W c w) (hg:GrS S w w') (hr:¬ S W):WBlk W c w':=hg.blk h hr
theorem Tryz.infoSInt:(Tryz.prog.info? 35).map (fun i=>(i.zero,i.size,i.bytes))=some (some (.slice none 0 0),1,24):=by kernel_rfl
theorem RowAt.litn {α:Type} {e:TypeId} {size:Nat} {enc:α→List Value} (hsz:∀ a,(enc a).length=size) (w:World) (l:List α) (cs:Array Value) (hc:cs.toList=l.flatMap enc) (hl:l.length≤maxLen) :
    RowAt e size enc w.heap.size (.slice (some ⟨w.heap.size,0,none⟩) l.length l.length) l (w.alloc (.cells cs e)):=by
  have hlen:∀ (k:List α),(k.flatMap enc).length=k.length * size:=by
    intro k
    induction k with
    | nil=>simp
    | cons a k ih=>rw [List.flatMap_cons,List.length_append,hsz,ih,List.length_cons,Nat.succ_mul]; omega
  refine ⟨hsz,?_⟩
  have h:=World.ownsRow_lit (base:=w.heap.size) (e:=e) (size:=size) w cs l.length (Nat.le_refl _) hl (by rw [←Array.length_toList,hc,hlen])
  rw [hc] at h
  exact h
def OwnNPost (T:Nat→Nat) (t0 W:Nat) (nv fv mv k1 k2 lv:Value) (us:List (Value×Int)) (w:World) (e:Ending) (w':World):Prop:=
  e=.returned (.tuple #[])∧∃ T' uv' k0' us',WBlk W #[nv,uv',fv,mv,k0',k1,k2,lv] w'∧NumsAt T' uv' k0' us' w'∧us'.length=us.length+4∧
    GrS (fun k=>T k=1∨T k=3∨T k=6∨T k=t0) w w'∧∀ k,k < w.heap.size→T k≠t0→T' k=T k
set_option maxRecDepth 100000 in
set_option maxHeartbeats 1000000 in
theorem ownN_w (T:Nat→Nat) (t0 W:Nat) (nv uv fv mv k0 k1 k2 lv:Value) (us:List (Value×Int)) (v:Value) (l:List Int) (w:World)
    (hW:WBlk W #[nv,uv,fv,mv,k0,k1,k2,lv] w) (hTW:T W=1) (hN:NumsAt T uv k0 us w) (hv:TRow T t0 3 1 ienc v l w) (ht0:11≤t0) (hul:us.length≤4398046511104) (hll:l.length≤1000000) :
    Calls Tryz.prog 61 #[.pointer (some ⟨W,0,none⟩),v] w fun e w'=>OwnNPost T t0 W nv fv mv k1 k2 lv us w e w':=by
  obtain ⟨aoV,capV,rfl⟩:=hv.1.slice
  obtain ⟨hN1,hN2,hN3⟩:=hN
  obtain ⟨aoK,capK,hk0⟩:=hN2.1.slice
  rw [List.length_map] at hk0
  have c4:w.cell? ⟨W,4,none⟩=some (.slice aoK us.length capK):=by rw [hW.cell 4,hk0]; rfl
  obtain ⟨m,hm⟩:∃ m:Int,m=-1 - (us.length:Int):=⟨_,rfl⟩
  have hm1:-4398046511106≤m:=by omega
  have hm2:m≤-1:=by omega
  have hltV:=hv.1.own
  have HV:=hide hv
  have HN1:=hide hN1
  have HN2:=hide hN2
  have HN3:=hide hN3
  have HW:=hide hW
  have HK0:=hide hk0
  have HM:=hide hm
  have HLT:=hide hltV
  clear hltV hv hN1 hN2 hN3 hW hk0 hm
  go_enter Tryz.func61,Tryz.ntmps61
  go_wp2
  rw [←unhide HM]
  have HUL:=hide hul
  have HM1:=hide hm1
  have HM2:=hide hm2
  clear hul hm1 hm2 c4
  go_loopw [5] (fun x w'=>∃ i:Nat,i≤l.length∧x=.int .i64 i∧GrS (fun k=>T k=t0) w w'∧IsAt 0 (.slice aoV l.length capV) (List.replicate i m ++ l.drop i) w') (fun x _=>l.length - (intOf x).toNat)
  case atStart=>exact ⟨0,Nat.zero_le _,rfl,GrS.refl _ _,by simpa using (unhide HV).1⟩
  case round=>
    obtain ⟨i,hi,rfl,hG,hR⟩:=hrel
    by_cases hlt:i < l.length
    · have hdi:decide (i < l.length)=true:=by simpa using hlt
      obtain ⟨x,hx⟩:∃ x,(List.replicate i m ++ l.drop i)[i]?=some x:=⟨_,List.getElem?_eq_getElem (by simp; omega)⟩
      obtain ⟨g,cp,hvv,hcs⟩:=hR.cells hx
      simp only [Value.slice.injEq] at hvv
      obtain ⟨rfl,hzz,rfl⟩:=hvv
      clear hzz
      have x0:wr.cell? ⟨g,i,none⟩=some (.int .i64 x):=by have:=hcs 0 (by omega); simpa [ienc] using this
      have z0:=hR.fz i
      have hTg:T g=t0:=(unhide HV).2 g rfl
      have hR2:=hR.stored i m
      rw [rep_set m l i hlt] at hR2
      have hG2:=hG.then (gr_set wr g i (.int .i64 m)) (fun k hk=>by simp at hk; subst hk; exact .inr hTg)
      clear hcs hx hR hG hTg
      have HR2:=hide hR2
      have HG2:=hide hG2
      clear hR2 hG2
      go_wp2
      go_roundw
      case rel=>exact ⟨i+1,by omega,by go_num,unhide HG2,unhide HR2⟩
      case measure=>simp [intOf]; omega
    · have hdi:decide (i < l.length)=false:=by simpa using hlt
      have e1:List.replicate i m ++ l.drop i=List.replicate l.length m:=by
        rw [List.drop_of_length_le (by omega),List.append_nil]
        congr 1
        omega
      rw [e1] at hR
      clear e1 hlt hi
      generalize hnn:l.length=n at *
      have hgA:=World.grownBy_alloc wr (.cells #[.int .i64 m] 3) none
      have hs1:IsAt 0 (.slice (some ⟨wr.heap.size,0,none⟩) 1 1) (List.replicate 1 m) (wr.alloc (.cells #[.int .i64 m] 3)):=(RowAt.litn ienc_len wr (List.replicate 1 m) #[.int .i64 m] rfl (by simp [maxLen])).weak (Nat.zero_le _)
      have hRA:=hR.gr hgA
      go_wp2_with (at_builtin; refine app_two rfl _ _ 35 rfl Tryz.underlying35 Tryz.infoInt rfl (by decide) rfl hRA rfl hs1 (by simp) (fun y _=>ienc_one y) (by unfold maxLen; simp; omega) (by simp; omega) ?_)
      intro v1 w1 hv1 hl1
      obtain ⟨g1,cap1,rfl⟩:=hl1.form
      have hv1':IsAt 0 (.slice (some ⟨g1,0,none⟩) (n+1) cap1) (List.replicate (n+1) m) w1:=by have:=hv1; rw [←rep_snoc n m 1]; exact this
      have hltW:∀ g,(Value.slice aoV n capV).ownBlock=some g→g < (wr.alloc (.cells #[.int .i64 m] 3)).heap.size:=fun g hg=>Nat.lt_of_lt_of_le (unhide HLT g hg).2 (Nat.le_trans hG.size hgA.size)
      have hkin1:=hl1.kin hltW
      have hR1:IsAt 0 (.slice aoV n capV) (List.replicate (n+0) m) w1:=Kin.keep (v:=.slice aoV n capV) (v1:=.slice aoV n capV) (j:=0) (kin_self _ _ hR) hRA hv1' hl1 (Nat.zero_le _)
      have hGB:=(hG.then hgA (by simp)).trans (hl1.gr (fun g hg=>(unhide HV).2 g hg))
      have hown1:=hl1.own
      have HSZ0:w.heap.size≤(wr.alloc (.cells #[.int .i64 m] 3)).heap.size:=Nat.le_trans hG.size hgA.size
      have hgB:=World.grownBy_alloc w1 (.cells #[.int .i64 m,.int .i64 m] 3) none
      have hs2:IsAt 0 (.slice (some ⟨w1.heap.size,0,none⟩) 2 2) (List.replicate 2 m) (w1.alloc (.cells #[.int .i64 m,.int .i64 m] 3)):=(RowAt.litn ienc_len w1 (List.replicate 2 m) #[.int .i64 m,.int .i64 m] rfl (by simp [maxLen])).weak (Nat.zero_le _)
      have hRB:=hR1.gr hgB
      have hvB:=hv1'.gr hgB
      have HK1:=hide hkin1
      have HOW1:=hide hown1
      clear hgA hs1 hRA hv1 hl1 hR1 hR hG hltW hkin1 hown1 hv1'
      go_wp2_with (at_builtin; refine app_two rfl _ _ 35 rfl Tryz.underlying35 Tryz.infoInt rfl (by decide) rfl hRB rfl hs2 (by simp) (fun y _=>ienc_one y) (by unfold maxLen; simp; omega) (by simp; omega) ?_)
      intro v2 w2 hv2 hl2
      obtain ⟨g2,cap2,rfl⟩:=hl2.form
      have hv2':IsAt 0 (.slice (some ⟨g2,0,none⟩) (n+2) cap2) (List.replicate (n+2) m) w2:=by have:=hv2; rw [←rep_snoc n m 2]; exact this
      have hltW:∀ g,(Value.slice aoV n capV).ownBlock=some g→g < (w1.alloc (.cells #[.int .i64 m,.int .i64 m] 3)).heap.size:=fun g hg=>Nat.lt_of_lt_of_le (unhide HLT g hg).2 (Nat.le_trans hGB.size hgB.size)
      have hkin2:=hl2.kin hltW
      have hR2:IsAt 0 (.slice aoV n capV) (List.replicate (n+0) m) w2:=Kin.keep (v:=.slice aoV n capV) (v1:=.slice aoV n capV) (j:=0) (kin_self _ _ hRB) hRB hv2' hl2 (Nat.zero_le _)
      have hv12:=Kin.keep (unhide HK1) hvB hv2' hl2 (by omega)
      have hGC:=(hGB.then hgB (by simp)).trans (hl2.gr (fun g hg=>(unhide HV).2 g hg))
      have hown2:=hl2.own
      have HSZ1:w.heap.size≤(w1.alloc (.cells #[.int .i64 m,.int .i64 m] 3)).heap.size:=Nat.le_trans hGB.size hgB.size
      have hgC:=World.grownBy_alloc w2 (.cells #[.int .i64 m,.int .i64 m,.int .i64 m] 3) none
      have hs3:IsAt 0 (.slice (some ⟨w2.heap.size,0,none⟩) 3 3) (List.replicate 3 m) (w2.alloc (.cells #[.int .i64 m,.int .i64 m,.int .i64 m] 3)):=(RowAt.litn ienc_len w2 (List.replicate 3 m) #[.int .i64 m,.int .i64 m,.int .i64 m] rfl (by simp [maxLen])).weak (Nat.zero_le _)
      have hRC:=hR2.gr hgC
      have hvC1:=hv12.gr hgC
      have hvC2:=hv2'.gr hgC
      have HK2:=hide hkin2
      have HOW2:=hide hown2
      clear hgB hs2 hRB hvB hv2 hl2 hR2 hv12 hGB hltW hkin2 hown2 hv2'
      go_wp2_with (at_builtin; refine app_two rfl _ _ 35 rfl Tryz.underlying35 Tryz.infoInt rfl (by decide) rfl hRC rfl hs3 (by simp) (fun y _=>ienc_one y) (by unfold maxLen; simp; omega) (by simp; omega) ?_)
      intro v3 w3 hv3 hl3
      obtain ⟨g3,cap3,rfl⟩:=hl3.form
      have hv3':IsAt 0 (.slice (some ⟨g3,0,none⟩) (n+3) cap3) (List.replicate (n+3) m) w3:=by have:=hv3; rw [←rep_snoc n m 3]; exact this
      have hR3:IsAt 0 (.slice aoV n capV) (List.replicate (n+0) m) w3:=Kin.keep (v:=.slice aoV n capV) (v1:=.slice aoV n capV) (j:=0) (kin_self _ _ hRC) hRC hv3' hl3 (Nat.zero_le _)
      have hv13:=Kin.keep (unhide HK1) hvC1 hv3' hl3 (by omega)
      have hv23:=Kin.keep (unhide HK2) hvC2 hv3' hl3 (by omega)
      have hGD:=(hGC.then hgC (by simp)).trans (hl3.gr (fun g hg=>(unhide HV).2 g hg))
      have hown3:=hl3.own
      have hG3:=hGD.size
      have hsz1:=hGC.size
      have ho:∀ v':Value,(v'=.slice aoV n capV∨v'=.slice (some ⟨g1,0,none⟩) (n+1) cap1∨v'=.slice (some ⟨g2,0,none⟩) (n+2) cap2∨v'=.slice (some ⟨g3,0,none⟩) (n+3) cap3)→∀ g,v'.ownBlock=some g→(g < w.heap.size∧T g=t0)∨w.heap.size≤g:=by
        have hV:∀ g,(Value.slice aoV n capV).ownBlock=some g→(g < w.heap.size∧T g=t0)∨w.heap.size≤g:=fun g hg=>.inl ⟨(unhide HLT g hg).2,(unhide HV).2 g hg⟩
        rintro v' (rfl | rfl | rfl | rfl) g hg
        · exact hV g hg
        · rcases unhide HOW1 g hg with h | h
          · exact hV g h
          · exact .inr (Nat.le_trans HSZ0 h)
        · rcases unhide HOW2 g hg with h | h
          · exact hV g h
          · exact .inr (Nat.le_trans HSZ1 h)
        · rcases hown3 g hg with h | h
          · exact hV g h
          · exact .inr (Nat.le_trans (Nat.le_trans hsz1 hgC.size) h)
      have HO:=hide ho
      have hus3:=hGD.row (unhide HN1).1 (fun g hg=>by have:=(unhide HN1).2 g hg; omega)
      have hks3:=hGD.row (unhide HN2).1 (fun g hg=>by have:=(unhide HN2).2 g hg; omega)
      have hW3:=(unhide HW).grs hGD (by omega)
      clear hgC hs3 hRC hvC1 hvC2 hv3 hl3 hown3 ho hGC hsz1 HOW1 HOW2 HK1 HK2 hnn
      obtain ⟨aoU,capU,rfl⟩:=hus3.slice
      obtain ⟨L4,hL4⟩:∃ L4:List (Value×Int),L4=[(.slice aoV n capV,m),(.slice (some ⟨g1,0,none⟩) (n+1) cap1,m),(.slice (some ⟨g2,0,none⟩) (n+2) cap2,m),(.slice (some ⟨g3,0,none⟩) (n+3) cap3,m)]:=⟨_,rfl⟩
      have hL4l:L4.length=4:=by rw [hL4]; rfl
      have hgD:=World.grownBy_alloc w3 (.cells #[.slice aoV n capV,.slice (some ⟨g1,0,none⟩) (n+1) cap1,.slice (some ⟨g2,0,none⟩) (n+2) cap2,.slice (some ⟨g3,0,none⟩) (n+3) cap3] 35) none
      have hs4:RowAt 35 1 (fun p:Value×Int=>[p.1]) 0 (.slice (some ⟨w3.heap.size,0,none⟩) 4 4) L4 (w3.alloc (.cells #[.slice aoV n capV,.slice (some ⟨g1,0,none⟩) (n+1) cap1,.slice (some ⟨g2,0,none⟩) (n+2) cap2,.slice (some ⟨g3,0,none⟩) (n+3) cap3] 35)):=by
        have:=(RowAt.litn (e:=35) (size:=1) (enc:=fun p:Value×Int=>[p.1]) (fun _=>rfl) w3 L4 #[.slice aoV n capV,.slice (some ⟨g1,0,none⟩) (n+1) cap1,.slice (some ⟨g2,0,none⟩) (n+2) cap2,.slice (some ⟨g3,0,none⟩) (n+3) cap3] (by rw [hL4]; rfl) (by rw [hL4l]; decide)).weak (Nat.zero_le _)
        rw [hL4l] at this
        exact this
      have hone4:∀ y∈L4,∀ c∈[y.1],c.oneCell'=true:=by
        intro y hy c hc
        rw [hL4] at hy
        simp only [List.mem_singleton] at hc
        subst hc
        simp only [List.mem_cons,List.not_mem_nil,or_false] at hy
        rcases hy with rfl | rfl | rfl | rfl<;>rfl
      have hUL:=unhide HUL
      have hb1:us.length+L4.length≤maxLen:=by rw [hL4l]; unfold maxLen; omega
      have hb2:(us.length+L4.length) * 24≤140737488355328:=by rw [hL4l]; omega
      have hb3:0 < L4.length:=by rw [hL4l]; decide
      have HB1:=hide hb1
      have HB2:=hide hb2
      have HB3:=hide hb3
      have HONE:=hide hone4
      have HS4:=hide hs4
      have hus4:=hus3.gr hgD
      have hWD:=hW3.gr hgD (by simp)
      have hcW1:(w3.alloc (.cells #[.slice aoV n capV,.slice (some ⟨g1,0,none⟩) (n+1) cap1,.slice (some ⟨g2,0,none⟩) (n+2) cap2,.slice (some ⟨g3,0,none⟩) (n+3) cap3] 35)).cell? ⟨W,1,none⟩=some (.slice aoU us.length capU):=hWD.cell 1
      have hcW0:w3.cell? ⟨W,1,none⟩=some (.slice aoU us.length capU):=hW3.cell 1
      have HL4:=hide hL4
      have HL4L:=hide hL4l
      clear hb1 hb2 hb3 hone4 hs4 hL4 hL4l hUL
      have huW:(Value.slice aoU us.length capU).ownBlock≠some W:=fun e=>by have:=(unhide HN1).2 W e; omega
      have HUW:=hide huW
      clear huW
      go_wp2_with (at_builtin; refine app_two rfl _ _ 68 rfl Tryz.underlying68 Tryz.infoSInt rfl (by decide) rfl hus4 rfl (unhide HS4) (unhide HB3) (unhide HONE) (unhide HB1) (unhide HB2) ?_)
      intro u5 w5 hu5 hl5
      obtain ⟨g5,cap5,rfl⟩:=hl5.form
      rw [unhide HL4L] at hu5 hl5
      have hW5:WBlk W #[nv,.slice aoU us.length capU,fv,mv,k0,k1,k2,lv] w5:=hl5.block hWD (unhide HUW)
      have c51:w5.cell? ⟨W,1,none⟩=some (.slice aoU us.length capU):=hW5.cell 1
      have z51:=hW5.fz 1
      have hTU:∀ g,(Value.slice aoU us.length capU).ownBlock=some g→g < w.heap.size∧T g=3:=fun g hg=>⟨((unhide HN1).1.own g hg).2,(unhide HN1).2 g hg⟩
      have hTK:∀ g,k0.ownBlock=some g→g < w.heap.size∧T g=6:=fun g hg=>⟨((unhide HN2).1.own g hg).2,(unhide HN2).2 g hg⟩
      have hgs:=gr_set w5 W 1 (.slice (some ⟨g5,0,none⟩) (us.length+4) cap5)
      have hWlt:W < w.heap.size:=row_lt (unhide HW)
      have hvkeep:∀ (v':Value) (k:Nat),(v'=.slice aoV n capV∨v'=.slice (some ⟨g1,0,none⟩) (n+1) cap1∨v'=.slice (some ⟨g2,0,none⟩) (n+2) cap2∨v'=.slice (some ⟨g3,0,none⟩) (n+3) cap3)→IsAt 0 v' (List.replicate k m) w3→IsAt 0 v' (List.replicate k m) (w5.setCell ⟨W,1,none⟩ (.slice (some ⟨g5,0,none⟩) (us.length+4) cap5)):=by
        intro v' k hv' h
        have h1:=hl5.keepRow (h.gr hgD) (fun g hg e=>by
          have h2:=hTU g e
          rcases unhide HO v' hv' g hg with h3 | h3<;>omega)
        refine h1.other hgs (fun g hg e=>?_)
        simp only [Option.some.injEq] at e
        subst e
        rcases unhide HO v' hv' W hg with h3 | h3<;>omega
      have hw0:=hvkeep _ _ (.inl rfl) hR3
      have hw1:=hvkeep _ _ (.inr (.inl rfl)) hv13
      have hw2:=hvkeep _ _ (.inr (.inr (.inl rfl))) hv23
      have hw3:=hvkeep _ _ (.inr (.inr (.inr rfl))) hv3'
      have hk6:RowAt 3 1 ienc 0 k0 (us.map Prod.snd) (w5.setCell ⟨W,1,none⟩ (.slice (some ⟨g5,0,none⟩) (us.length+4) cap5)):=by
        have h1:=hl5.keepRow (hks3.gr hgD) (fun g hg e=>by have h2:=hTU g e; have h3:=hTK g hg; omega)
        refine h1.other hgs (fun g hg e=>?_)
        simp only [Option.some.injEq] at e
        subst e
        have h3:=hTK W hg
        omega
      have hu6:RowAt 35 1 (fun p:Value×Int=>[p.1]) 0 (.slice (some ⟨g5,0,none⟩) (us.length+4) cap5) (us ++ L4) (w5.setCell ⟨W,1,none⟩ (.slice (some ⟨g5,0,none⟩) (us.length+4) cap5)):=by
        refine hu5.other hgs (fun g hg e=>?_)
        simp only [Option.some.injEq] at e
        subst e
        rcases hl5.own W hg with h2 | h2
        · exact unhide HUW h2
        · have h4:=hgD.size
          omega
      have hW6:WBlk W #[nv,.slice (some ⟨g5,0,none⟩) (us.length+4) cap5,fv,mv,k0,k1,k2,lv] (w5.setCell ⟨W,1,none⟩ (.slice (some ⟨g5,0,none⟩) (us.length+4) cap5)):=hW5.set 1 _
      have hg5own:g5 < w3.heap.size+1→T g5=3∧g5 < w.heap.size:=by
        intro hlt
        rcases hl5.own g5 rfl with h2 | h2
        · exact ⟨(hTU g5 h2).2,(hTU g5 h2).1⟩
        · simp at h2; omega
      have hG6:GrS (fun k=>T k=1∨T k=3∨T k=6∨T k=t0) w (w5.setCell ⟨W,1,none⟩ (.slice (some ⟨g5,0,none⟩) (us.length+4) cap5)):=by
        have h1:GrS (fun k=>T k=1∨T k=3∨T k=6∨T k=t0) w w3:=hGD.mono (fun k hk=>.inr (.inr (.inr hk)))
        have h2:=(h1.then hgD (by simp)).trans (hl5.gr (fun g hg=>.inr (.inl (hTU g hg).2)))
        exact h2.then hgs (fun g hg=>by simp only [Option.some.injEq] at hg; subst hg; exact .inr (.inl hTW))
      obtain ⟨w6,hw6⟩:∃ w6,w5.setCell ⟨W,1,none⟩ (.slice (some ⟨g5,0,none⟩) (us.length+4) cap5)=w6:=⟨_,rfl⟩
      have hs56:w5.heap.size=w6.heap.size:=by rw [←hw6]; simp [World.setCell]
      have hs35:w3.heap.size+1≤w5.heap.size:=by
        have h1:GrS (fun k=>T k=3) (w3.alloc (.cells #[.slice aoV n capV,.slice (some ⟨g1,0,none⟩) (n+1) cap1,.slice (some ⟨g2,0,none⟩) (n+2) cap2,.slice (some ⟨g3,0,none⟩) (n+3) cap3] 35)) w5:=hl5.gr (fun g hg=>(hTU g hg).2)
        have h2:=h1.size
        simp at h2
        omega
      have hlt5:g5 < w5.heap.size:=(hu5.own g5 rfl).2
      have hlt3:∀ (v':Value) (k:Nat),IsAt 0 v' (List.replicate k m) w3→∀ g,v'.ownBlock=some g→g < w3.heap.size:=fun v' k h g hg=>(h.own g hg).2
      have q0:=hlt3 _ _ hR3
      have q1:=hlt3 _ _ hv13
      have q2:=hlt3 _ _ hv23
      have q3:=hlt3 _ _ hv3'
      rw [hw6] at hw0 hw1 hw2 hw3 hk6 hu6 hW6 hG6
      have hk0:=unhide HK0
      subst hk0
      have hgX:=gr_drew (World.grownBy_alloc w6 (.cells #[.int .i64 m,.int .i64 m,.int .i64 m,.int .i64 m] 3) none)
      have hsX:IsAt 0 (.slice (some ⟨w6.heap.size,0,none⟩) 4 4) (List.replicate 4 m) (w6.alloc (.cells #[.int .i64 m,.int .i64 m,.int .i64 m,.int .i64 m] 3)).drew:=((RowAt.litn ienc_len w6 (List.replicate 4 m) #[.int .i64 m,.int .i64 m,.int .i64 m,.int .i64 m] rfl (by simp [maxLen])).weak (Nat.zero_le _)).heap rfl
      have c64:w6.cell? ⟨W,4,none⟩=some (.slice aoK us.length capK):=hW6.cell 4
      have c64':(w6.alloc (.cells #[.int .i64 m,.int .i64 m,.int .i64 m,.int .i64 m] 3)).cell? ⟨W,4,none⟩=some (.slice aoK us.length capK):=(World.grownBy_alloc w6 _ none).cell c64 (by simp)
      obtain ⟨WX,hWX⟩:∃ WX,(w6.alloc (.cells #[.int .i64 m,.int .i64 m,.int .i64 m,.int .i64 m] 3)).drew=WX:=⟨_,rfl⟩
      have hsXs:WX.heap.size=w6.heap.size+1:=by rw [←hWX]; simp [World.drew]
      rw [hWX] at hgX hsX
      have hkX:=hk6.gr hgX
      have hKW:(Value.slice aoK us.length capK).ownBlock≠some W:=fun e=>by have:=hTK W e; omega
      have hFin:∀ g7 cap7 w7,RowAt 3 1 ienc 0 (.slice (some ⟨g7,0,none⟩) (us.length+4) cap7) (us.map Prod.snd ++ List.replicate 4 m) w7→Longer (.slice aoK us.length capK) (.slice (some ⟨g7,0,none⟩) (us.length+4) cap7) us.length 4 WX w7→
          w7.cell? ⟨W,4,none⟩=some (.slice aoK us.length capK)∧w7.frozen? ⟨W,4,none⟩=false∧OwnNPost T t0 W nv fv mv k1 k2 lv us w (.returned (.tuple #[])) (w7.setCell ⟨W,4,none⟩ (.slice (some ⟨g7,0,none⟩) (us.length+4) cap7)):=by
        intro g7 cap7 w7 hv7 hl7
        have hW7:WBlk W #[nv,.slice (some ⟨g5,0,none⟩) (us.length+4) cap5,fv,mv,.slice aoK us.length capK,k1,k2,lv] w7:=hl7.block (hW6.gr hgX (by simp)) hKW
        have hgs7:=gr_set w7 W 4 (.slice (some ⟨g7,0,none⟩) (us.length+4) cap7)
        have hG7:=((hG6.then hgX (by simp)).trans (hl7.gr (fun g hg=>.inr (.inr (.inl (hTK g hg).2))))).then hgs7 (fun g hg=>by simp only [Option.some.injEq] at hg; subst hg; exact .inr (.inl hTW))
        have hg7:g7 < w6.heap.size+1→T g7=6∧g7 < w.heap.size:=by
          intro hlt
          rcases hl7.own g7 rfl with h2 | h2
          · exact ⟨(hTK g7 h2).2,(hTK g7 h2).1⟩
          · omega
        have hkeep:∀ {α:Type} {e:TypeId} {size:Nat} {enc:α→List Value} (x:Value) (y:List α),RowAt e size enc 0 x y w6→(∀ g,x.ownBlock=some g→(g < w.heap.size∧T g≠6∧T g≠1)∨w.heap.size≤g)→RowAt e size enc 0 x y (w7.setCell ⟨W,4,none⟩ (.slice (some ⟨g7,0,none⟩) (us.length+4) cap7)):=by
          intro α e size enc x y h hx
          have h1:=hl7.keepRow (h.gr hgX) (fun g hg e=>by
            have h2:=hTK g e
            rcases hx g hg with h3 | h3<;>omega)
          refine h1.other hgs7 (fun g hg e=>?_)
          simp only [Option.some.injEq] at e
          subst e
          rcases hx W hg with h3 | h3<;>omega
        have hLm:L4.map Prod.snd=List.replicate 4 m:=by rw [unhide HL4]; rfl
        obtain ⟨T',hT'⟩:∃ T':Nat→Nat,∀ k,T' k=if k < w.heap.size then (if T k=t0 then 10 else T k) else if k=g5 then 3 else if k=g7 then 6 else 10:=⟨_,fun _=>rfl⟩
        have hTo:∀ k,k < w.heap.size→T k≠t0→T' k=T k:=fun k h1 h2=>by rw [hT',if_pos h1,if_neg h2]
        refine ⟨hW7.cell 4,hW7.fz 4,rfl,T',.slice (some ⟨g5,0,none⟩) (us.length+4) cap5,.slice (some ⟨g7,0,none⟩) (us.length+4) cap7,us ++ L4,hW7.set 4 _,⟨⟨?_,?_⟩,⟨?_,?_⟩,?_⟩,by rw [List.length_append,unhide HL4L],hG7,hTo⟩
        · refine hkeep _ _ hu6 (fun g hg=>?_)
          simp only [Value.ownBlock,Option.some.injEq] at hg
          subst hg
          by_cases hlt:g5 < w.heap.size
          · have:=hg5own (by omega)
            exact .inl ⟨hlt,by omega,by omega⟩
          · exact .inr (by omega)
        · intro g hg
          simp only [Value.ownBlock,Option.some.injEq] at hg
          subst hg
          by_cases hlt:g5 < w.heap.size
          · have:=hg5own (by omega)
            rw [hTo g5 hlt (by omega)]
            exact this.1
          · rw [hT',if_neg hlt,if_pos rfl]
        · rw [List.map_append,hLm]
          refine hv7.other hgs7 (fun g hg e=>?_)
          simp only [Value.ownBlock,Option.some.injEq] at hg e
          subst hg
          subst e
          have:=hg7 (by omega)
          omega
        · intro g hg
          simp only [Value.ownBlock,Option.some.injEq] at hg
          subst hg
          by_cases hlt:g7 < w.heap.size
          · have:=hg7 (by omega)
            rw [hTo g7 hlt (by omega)]
            exact this.1
          · have hne:g7≠g5:=by
              intro e
              have:=hg7 (by omega)
              omega
            rw [hT',if_neg hlt,if_neg hne,if_pos rfl]
        · have hnew:∀ (v':Value) (k:Nat),(v'=.slice aoV n capV∨v'=.slice (some ⟨g1,0,none⟩) (n+1) cap1∨v'=.slice (some ⟨g2,0,none⟩) (n+2) cap2∨v'=.slice (some ⟨g3,0,none⟩) (n+3) cap3)→IsAt 0 v' (List.replicate k m) w6→(∀ g,v'.ownBlock=some g→g < w3.heap.size)→∃ j,TRow T' 10 3 1 ienc v' (List.replicate j m) (w7.setCell ⟨W,4,none⟩ (.slice (some ⟨g7,0,none⟩) (us.length+4) cap7)):=by
            intro v' k hv' h hlt
            refine ⟨k,hkeep v' _ h (fun g hg=>?_),fun g hg=>?_⟩
            · rcases unhide HO v' hv' g hg with h3 | h3
              · exact .inl ⟨h3.1,by omega,by omega⟩
              · exact .inr h3
            · rcases unhide HO v' hv' g hg with h3 | h3
              · rw [hT',if_pos h3.1,if_pos h3.2]
              · have hl:=hlt g hg
                have hn5:g≠g5:=by
                  intro e
                  have:=hg5own (by omega)
                  omega
                have hn7:g≠g7:=by
                  intro e
                  have:=hg7 (by omega)
                  omega
                rw [hT',if_neg (by omega),if_neg hn5,if_neg hn7]
          intro p hp
          rcases List.mem_append.1 hp with hp | hp
          · obtain ⟨j,hj⟩:=unhide HN3 p hp
            exact ⟨j,hj.keep2 hG7 (fun k hk=>by omega) (fun k hk hk2=>by rw [hTo k hk (by omega)]; exact hk2)⟩
          · rw [unhide HL4] at hp
            simp only [List.mem_cons,List.not_mem_nil,or_false] at hp
            rcases hp with rfl | rfl | rfl | rfl
            · exact hnew _ _ (.inl rfl) hw0 q0
            · exact hnew _ _ (.inr (.inl rfl)) hw1 q1
            · exact hnew _ _ (.inr (.inr (.inl rfl))) hw2 q2
            · exact hnew _ _ (.inr (.inr (.inr rfl))) hw3 q3
      have HFIN:=hide hFin
      have HKX:=hide hkX
      have HSX:=hide hsX
      have HWX:=hide hWX
      have HW6:=hide hw6
      have hUL:=unhide HUL
      have hb1:(us.map Prod.snd).length+(List.replicate 4 m).length≤maxLen:=by rw [List.length_map,List.length_replicate]; unfold maxLen; omega
      have hb2:((us.map Prod.snd).length+(List.replicate 4 m).length) * 8≤140737488355328:=by rw [List.length_map,List.length_replicate]; omega
      have HBX1:=hide hb1
      have HBX2:=hide hb2
      clear hFin hkX hsX hWX hb1 hb2 hUL hk6 hu6 hW6 hG6 hw0 hw1 hw2 hw3 hvkeep hlt3 q0 q1 q2 q3 hR3 hv13 hv23 hv3' hg5own hTU hTK hu5 hl5 hus3 hus4 hks3 hgD hW3 hWD hW5 hcW1 hcW0 hGD hgs hgX hKW hw6
      go_wp2_with fail
      rw [unhide HL4L,unhide HW6]
      go_region_law (rw [unhide HWX]; refine app_two_step rfl _ _ 35 rfl Tryz.underlying35 Tryz.infoInt rfl (by decide) (by simp [Act.eval]) (unhide HKX) (by simp [Act.eval]) (unhide HSX) (by simp) (fun y _=>ienc_one y) (unhide HBX1) (unhide HBX2) ?_; intro kv w7 hv7 hl7; rw [List.length_map,List.length_replicate] at hl7; obtain ⟨g7,cap7,rfl⟩:=hl7.form; obtain ⟨f1,f2,f3⟩:=unhide HFIN g7 cap7 w7 hv7 hl7; have F3:=hide f3; clear f3 hv7 hl7)
      all_goals
        go_wp2_with fail
        go_end0
        exact unhide F3
end Go.Proofs.YtolhbeekfjnfmaaGreatDoor
namespace Go.Proofs.YtolhbeekfjnfmaaGreatDoor
open Go.RowKit
theorem rep_snocG {α:Type} (n:Nat) (a:α) (j:Nat):List.replicate n a ++ List.replicate j a=List.replicate (n+j) a:=by rw [List.replicate_append_replicate]
theorem rep_setG {α:Type} (m:α) (l:List α) (i:Nat) (h:i < l.length):(List.replicate i m ++ l.drop i).set i m=List.replicate (i+1) m ++ l.drop (i+1):=by
  have e:l.drop i=l[i] :: l.drop (i+1):=List.drop_eq_getElem_cons h
  rw [e,List.set_append_right _ _ (by simp)]
  simp [List.replicate_succ']
  rw [e]
  rfl
theorem Kin.keepG {α:Type} {e:TypeId} {size:Nat} {enc:α→List Value} {v v1 v2:Value} {n j j2:Nat} {w w':World} {m:α} (hk:Kin v v1 n j) (h1:RowAt e size enc 0 v1 (List.replicate (n+j) m) w) (h2:RowAt e size enc 0 v2 (List.replicate (n+j2) m) w') (hl:Longer v v2 n j2 w w') (hj:j≤j2):RowAt e size enc 0 v1 (List.replicate (n+j) m) w':=by
  rcases hl with ⟨g,cap,e1,e2,hg⟩ | ⟨hg,_⟩
  · rcases hk with ⟨g',cap',e3,e4⟩ | hne
    · rw [e1] at e3
      simp only [Value.slice.injEq,Option.some.injEq,Addr.mk.injEq,and_true,true_and] at e3
      obtain ⟨rfl,rfl⟩:=e3
      rw [e2] at h2
      have e5:List.replicate (n+j2) m=List.replicate (n+j) m ++ List.replicate (j2 - j) m:=by rw [rep_snocG]; congr 1; omega
      rw [e5] at h2
      have h3:=h2.prefix
      rw [List.length_replicate] at h3
      rw [e4]
      exact h3
    · refine h1.other hg (fun g' hg' e=>?_)
      have:=hne g' hg'
      rw [e1] at this
      exact this (by rw [←e]; rfl)
  · exact h1.gr hg
theorem kin_selfG {α:Type} {e:TypeId} {size:Nat} {enc:α→List Value} (v:Value) (n:Nat) {w:World} {m:α} (h:RowAt e size enc 0 v (List.replicate n m) w):Kin v v n 0:=by
  rcases h.2.2 with ⟨h1,_⟩ | ⟨g,cap,cur,h1,_⟩
  · right
    intro g hg
    rw [h1] at hg
    simp [Value.ownBlock] at hg
  · left
    rw [List.length_replicate] at h1
    exact ⟨g,cap,h1,h1⟩
theorem ftenc_one (x:VFt) (h:x.v.oneCell'=true):∀ c∈ftenc x,c.oneCell'=true:=by
  intro c hc
  simp [ftenc] at hc
  rcases hc with rfl | rfl
  · rfl
  · exact h
theorem ftenc_set (l:List VFt) (i:Nat) (x:VFt) (h:i < l.length):(l.set i x).flatMap ftenc=((l.flatMap ftenc).set (i * 2) (.int .i64 x.kind)).set (i * 2+1) x.v:=by
  induction l generalizing i with
  | nil=>simp at h
  | cons a l ih=>
    cases i with
    | zero=>simp [ftenc]
    | succ i=>
      have e1:(i+1) * 2=i * 2+1+1:=by omega
      have e2:=ih i (by simpa using h)
      rw [List.set_cons_succ,List.flatMap_cons,List.flatMap_cons,e2,e1]
      rfl
theorem FtsAt.stored {e:TypeId} {base g n cap:Nat} {l:List VFt} {w:World} (h:RowAt e 2 ftenc base (.slice (some ⟨g,0,none⟩) n cap) l w) (i:Nat) (x:VFt) (hi:i < l.length):RowAt e 2 ftenc base (.slice (some ⟨g,0,none⟩) n cap) (l.set i x) ((w.setCell ⟨g,i * 2,none⟩ (.int .i64 x.kind)).setCell ⟨g,i * 2+1,none⟩ x.v):=by
  have hn:=h.len
  subst hn
  have h1:=(World.ownsRow.stored h.2 (i * 2) (.int .i64 x.kind)).1
  have h2:=(World.ownsRow.stored h1 (i * 2+1) x.v).1
  refine ⟨h.1,?_⟩
  rw [List.length_set,ftenc_set l i x hi]
  exact h2
theorem gr_set2o (w:World) (b o o2:Nat) (x y:Value):w.grownBy ((w.setCell ⟨b,o,none⟩ x).setCell ⟨b,o2,none⟩ y) (some b):=gr_trans (gr_set w b o x) (gr_set _ b o2 y)
def ElsAt (A B:Nat) (se e:TypeId) (T:Nat→Nat) (fv k1:Value) (fs:List (Value×Int)) (w:World):Prop:=
  TRow T A se 1 (fun p:Value×Int=>[p.1]) fv fs w∧TRow T B 3 1 ienc k1 (fs.map Prod.snd) w∧∀ p∈fs,∃ n,TRow T 10 e 2 ftenc p.1 (List.replicate n ⟨p.2,.slice none 0 0,[]⟩) w
theorem Tryz.infoSFact:(Tryz.prog.info? 47).map (fun i=>(i.zero,i.size,i.bytes))=some (some (.slice none 0 0),1,24):=by kernel_rfl
theorem Tryz.infoSMatch:(Tryz.prog.info? 43).map (fun i=>(i.zero,i.size,i.bytes))=some (some (.slice none 0 0),1,24):=by kernel_rfl
def Sd (T:Nat→Nat) (i k:Nat):Prop:=T k=1∨T k=3∨T k=6∨∃ j,j < i∧T k=13+3 * (j+1)
theorem Sd_13 {T:Nat→Nat} {i k:Nat} (h:T k=13):¬ Sd T i k:=by rintro (h1 | h1 | h1 | ⟨j,_,h1⟩)<;>omega
theorem Sd_no {T:Nat→Nat} {i k:Nat} (h:T k=13+3 * (i+1)):¬ Sd T i k:=by rintro (h1 | h1 | h1 | ⟨j,_,h1⟩)<;>omega
theorem Sd_succ {T:Nat→Nat} {i k:Nat} (h:Sd T i k):Sd T (i+1) k:=by
  rcases h with h | h | h | ⟨j,h1,h2⟩
  · exact .inl h
  · exact .inr (.inl h)
  · exact .inr (.inr (.inl h))
  · exact .inr (.inr (.inr ⟨j,by omega,h2⟩))
theorem Sd_small {T:Nat→Nat} {i k t:Nat} (h:T k=t) (ht:t≠1∧t≠3∧t≠6∧t < 13):¬ Sd T i k:=by rintro (h1 | h1 | h1 | ⟨j,_,h1⟩)<;>omega
end Go.Proofs.YtolhbeekfjnfmaaGreatDoor

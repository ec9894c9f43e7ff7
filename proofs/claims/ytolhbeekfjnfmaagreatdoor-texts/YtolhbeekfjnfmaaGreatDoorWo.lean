/- Writing rules in their plain form. -/
import Derived.Test.YtolhbeekfjnfmaaGreatDoorWn
namespace Go.Proofs.YtolhbeekfjnfmaaGreatDoor
open Go.RowKit

def Sv.cOk (c : Sv.Cond) : Prop := c.kind ≤ 9 ∧ ∀ t ∈ c.terms, Sv.tOk t
def Sv.rOk (q : Sv.Rule) : Prop := ∀ c ∈ q.conds, Sv.cOk c

theorem CsCells.wr {B0 : Nat} {w w' : World} {B b : Nat} {l : List UInt8} (hw : Wr B b w w') (hb : Bd B b l w) : ∀ (cs : List Sv.Cond) (xs : List Value), CsCells B0 w cs xs → CsCells B0 w' cs xs
  | [], _, h => h
  | _ :: cs, _, ⟨u, ys, h1, h2, h3⟩ => ⟨u, ys, h1, h2.wr hw hb, CsCells.wr hw hb cs ys h3⟩
theorem CsAt.wr {w w' : World} {B b : Nat} {l : List UInt8} {base : Nat} {v : Value} {cs : List Sv.Cond} (h : CsAt base v cs w) (hw : Wr B b w w') (hb : Bd B b l w) : CsAt base v cs w' := by
  obtain ⟨xs, h1, h2⟩ := h
  exact ⟨xs, own_wr h1 hw hb (by decide) (by decide), CsCells.wr hw hb cs xs h2⟩
theorem RsCells.wr {B0 : Nat} {w w' : World} {B b : Nat} {l : List UInt8} (hw : Wr B b w w') (hb : Bd B b l w) : ∀ (rs : List Sv.Rule) (xs : List Value), RsCells B0 w rs xs → RsCells B0 w' rs xs
  | [], _, h => h
  | _ :: rs, _, ⟨u, ys, h1, h2, h3⟩ => ⟨u, ys, h1, h2.wr hw hb, RsCells.wr hw hb rs ys h3⟩
theorem RsAt.wr {w w' : World} {B b : Nat} {l : List UInt8} {base : Nat} {v : Value} {rs : List Sv.Rule} (h : RsAt base v rs w) (hw : Wr B b w w') (hb : Bd B b l w) : RsAt base v rs w' := by
  obtain ⟨xs, h1, h2⟩ := h
  exact ⟨xs, own_wr h1 hw hb (by decide) (by decide), RsCells.wr hw hb rs xs h2⟩
theorem CsCells.at {B0 : Nat} {w : World} : ∀ (cs : List Sv.Cond) (xs : List Value) (k : Nat) (c : Sv.Cond), CsCells B0 w cs xs → cs[k]? = some c → ∃ u, xs[k * 3]? = some (.bool c.neg) ∧ xs[k * 3 + 1]? = some (.int .i64 c.kind) ∧ xs[k * 3 + 2]? = some u ∧ TsAt B0 u c.terms w
  | [], _, k, c, _, h => by simp at h
  | a :: cs, xs, 0, c, ⟨u, ys, h1, h2, _⟩, h => by
    simp at h
    subst h
    exact ⟨u, by rw [h1]; rfl, by rw [h1]; rfl, by rw [h1]; rfl, h2⟩
  | a :: cs, xs, k + 1, c, ⟨u, ys, h1, _, h3⟩, h => by
    obtain ⟨v, g1, g2, g3, g4⟩ := CsCells.at cs ys k c h3 (by simpa using h)
    refine ⟨v, ?_, ?_, ?_, g4⟩
    · rw [h1, show (k + 1) * 3 = k * 3 + 3 from by omega]; exact g1
    · rw [h1, show (k + 1) * 3 + 1 = k * 3 + 1 + 3 from by omega]; exact g2
    · rw [h1, show (k + 1) * 3 + 2 = k * 3 + 2 + 3 from by omega]; exact g3
theorem RsCells.at {B0 : Nat} {w : World} : ∀ (rs : List Sv.Rule) (xs : List Value) (k : Nat) (q : Sv.Rule), RsCells B0 w rs xs → rs[k]? = some q → ∃ u, xs[k * 2]? = some (.string ⟨q.name.toArray⟩) ∧ xs[k * 2 + 1]? = some u ∧ CsAt B0 u q.conds w
  | [], _, k, c, _, h => by simp at h
  | a :: cs, xs, 0, c, ⟨u, ys, h1, h2, _⟩, h => by
    simp at h
    subst h
    exact ⟨u, by rw [h1]; rfl, by rw [h1]; rfl, h2⟩
  | a :: cs, xs, k + 1, c, ⟨u, ys, h1, _, h3⟩, h => by
    obtain ⟨v, g1, g2, g4⟩ := RsCells.at cs ys k c h3 (by simpa using h)
    refine ⟨v, ?_, ?_, g4⟩
    · rw [h1, show (k + 1) * 2 = k * 2 + 2 from by omega]; exact g1
    · rw [h1, show (k + 1) * 2 + 1 = k * 2 + 1 + 2 from by omega]; exact g2
theorem CsAt.cells {base : Nat} {v : Value} {cs : List Sv.Cond} {w : World} (h : CsAt base v cs w) {k : Nat} {c : Sv.Cond} (hk : cs[k]? = some c) :
    ∃ g cap ao cap2, v = .slice (some ⟨g, 0, none⟩) cs.length cap ∧ w.cell? ⟨g, k * 3, none⟩ = some (.bool c.neg) ∧ w.cell? ⟨g, k * 3 + 1, none⟩ = some (.int .i64 c.kind) ∧ w.cell? ⟨g, k * 3 + 2, none⟩ = some (.slice ao c.terms.length cap2) ∧ TsAt base (.slice ao c.terms.length cap2) c.terms w := by
  obtain ⟨xs, h, hc⟩ := h
  have hlt : k < cs.length := (List.getElem?_eq_some_iff.1 hk).1
  obtain ⟨u, g1, g2, g3, g4⟩ := CsCells.at cs xs k c hc hk
  obtain ⟨ao, cap2, rfl⟩ := g4.slice
  rcases h.2 with ⟨_, h2⟩ | ⟨g, cap, cur, h1, h2⟩
  · omega
  · subst h1
    have h3 := World.ownsRow.cellAt (w := w) (base := base) (e := 200) (size := 3) (g := g) (n := cs.length) (cap := cap) (xs := xs) h
    exact ⟨g, cap, ao, cap2, rfl, (h3 (k * 3) (by omega)).trans g1, (h3 (k * 3 + 1) (by omega)).trans g2, (h3 (k * 3 + 2) (by omega)).trans g3, g4⟩
theorem RsAt.cells {base : Nat} {v : Value} {rs : List Sv.Rule} {w : World} (h : RsAt base v rs w) {k : Nat} {q : Sv.Rule} (hk : rs[k]? = some q) :
    ∃ g cap ao cap2, v = .slice (some ⟨g, 0, none⟩) rs.length cap ∧ w.cell? ⟨g, k * 2, none⟩ = some (.string ⟨q.name.toArray⟩) ∧ w.cell? ⟨g, k * 2 + 1, none⟩ = some (.slice ao q.conds.length cap2) ∧ CsAt base (.slice ao q.conds.length cap2) q.conds w := by
  obtain ⟨xs, h, hc⟩ := h
  have hlt : k < rs.length := (List.getElem?_eq_some_iff.1 hk).1
  obtain ⟨u, g1, g2, g4⟩ := RsCells.at rs xs k q hc hk
  obtain ⟨ao, cap2, rfl⟩ := g4.slice
  rcases h.2 with ⟨_, h2⟩ | ⟨g, cap, cur, h1, h2⟩
  · omega
  · subst h1
    have h3 := World.ownsRow.cellAt (w := w) (base := base) (e := 128) (size := 2) (g := g) (n := rs.length) (cap := cap) (xs := xs) h
    exact ⟨g, cap, ao, cap2, rfl, (h3 (k * 2) (by omega)).trans g1, (h3 (k * 2 + 1) (by omega)).trans g2, g4⟩
theorem C2.wr {T : TypeId} {N : Nat} {x y : Value} {w w' : World} {B b : Nat} {l : List UInt8} (h : C2 T N x y w) (hw : Wr B b w w') (hb : Bd B b l w) (he : T ≠ 5) (he2 : T ≠ 125) : C2 T N x y w' := hw.keep hb h he he2

/-- Lists that are written piece by piece. -/
theorem fm_snoc {α : Type} (f : α → List UInt8) (ts : List α) (k : Nat) (t : α) (h : ts[k]? = some t) : (ts.take (k + 1)).flatMap f = (ts.take k).flatMap f ++ f t := by
  obtain ⟨hlt, rfl⟩ := List.getElem?_eq_some_iff.1 h
  rw [List.take_succ_eq_append_getElem hlt, List.flatMap_append, List.flatMap_cons, List.flatMap_nil, List.append_nil]
theorem fm_le {α : Type} (f : α → List UInt8) (ts : List α) (k : Nat) : ((ts.take k).flatMap f).length ≤ (ts.flatMap f).length := by
  have h : ts.flatMap f = (ts.take k).flatMap f ++ (ts.drop k).flatMap f := by rw [← List.flatMap_append, List.take_append_drop]
  rw [h, List.length_append]
  omega
theorem fm_ge {α : Type} (f : α → List UInt8) (hf : ∀ a, 1 ≤ (f a).length) (ts : List α) : ts.length ≤ (ts.flatMap f).length := by
  induction ts with
  | nil => simp
  | cons a ts ih => rw [List.flatMap_cons, List.length_append]; have := hf a; simp at ih ⊢; omega
theorem plC_ge (c : Sv.Cond) : 1 ≤ (Sv.plC c).length := by unfold Sv.plC; simp; omega
theorem plR_ge (q : Sv.Rule) : 1 ≤ (Sv.plR q).length := by unfold Sv.plR; simp; omega

set_option maxHeartbeats 1000000 in
theorem writeRule_w (B b : Nat) (l : List UInt8) (nm : List UInt8) (cs : List Sv.Cond) (u : Value) (w : World) (h : Bd B b l w) (htab : Lib.TabIs Tryz.prog w "internal/strconv.uint64pow10" .u64 Lib.pow10Tab) (hP : 3 < B) (hcs : CsAt 0 u cs w) (hok : ∀ c ∈ cs, Sv.cOk c) (hlen : l.length + (Sv.plR ⟨nm, cs⟩).length ≤ 900000) :
    Calls Tryz.prog 66 #[.pointer (some ⟨b, 0, none⟩), .agg #[.string ⟨nm.toArray⟩, u]] w fun e w' => e = .returned (.tuple #[]) ∧ Bd B b (l ++ Sv.plR ⟨nm, cs⟩) w' ∧ Wr B b w w' := by
  have hBw := h.2
  have hBb := h.B
  obtain ⟨ao, cap, rfl⟩ := hcs.slice
  have hC0 : C2 128 w.heap.size (.string ⟨nm.toArray⟩) (.slice ao cs.length cap) (w.alloc (.cells #[.string ⟨nm.toArray⟩, .slice ao cs.length cap] 128)) := heap_alloc_new _ _
  have hb0 := h.alloc (.cells #[.string ⟨nm.toArray⟩, .slice ao cs.length cap] 128)
  have hw0 := (Wr.refl B b w).alloc hBw (.cells #[.string ⟨nm.toArray⟩, .slice ao cs.length cap] 128)
  have ht0 := tab_al htab (.cells #[.string ⟨nm.toArray⟩, .slice ao cs.length cap] 128) (by omega)
  have hcs0 := hcs.row (World.grownBy_alloc w (.cells #[.string ⟨nm.toArray⟩, .slice ao cs.length cap] 128) none) (RowOk.none 0 0 w) (by decide) (by decide)
  have hfin : l ++ Sv.plR ⟨nm, cs⟩ = l ++ nm ++ [58] ++ cs.flatMap Sv.plC ++ [59, 10] := by
    unfold Sv.plR
    simp only [List.append_assoc]
  have hsz : l.length + nm.length + (cs.flatMap Sv.plC).length + 3 ≤ 900000 := by
    have := congrArg List.length hfin
    simp only [List.length_append, List.length_cons, List.length_nil] at this
    omega
  have HF := hide hfin
  clear hfin hlen
  go_enter Tryz.func66, Tryz.ntmps66
  go_wp2_with fail
  refine (ws_w B b l ⟨nm.toArray⟩ _ hb0 (by omega) (by rw [size_of]; omega)).mono ?_
  rintro e W1 ⟨rfl, hb1, hw01⟩
  have hw1 := hw0.trans hw01
  have hC1 := hC0.wr hw01 hb0 (by decide) (by decide)
  have ht1 := tab_wr ht0 hw01 hP
  have hcs1 := hcs0.wr hw01 hb0
  clear hb0 hw01 hw0 hC0 ht0 hcs0
  go_wp2_with fail
  refine (wb_w B b (l ++ nm) 58 _ rfl _ hb1 (by simp; omega)).mono ?_
  rintro e W2 ⟨rfl, hb2, hw12⟩
  have hw2 := hw1.trans hw12
  have hC2 := hC1.wr hw12 hb1 (by decide) (by decide)
  have ht2 := tab_wr ht1 hw12 hP
  have hcs2 := hcs1.wr hw12 hb1
  clear hb1 hw1 hw12 hC1 ht1 hcs1
  obtain ⟨d0, d1⟩ := hC2.c
  have hmx : cs.length ≤ 900000 := by
    have := fm_ge Sv.plC plC_ge cs
    omega
  go_wp2
  go_loopw [15] (fun x w' => ∃ k : Nat, k ≤ cs.length ∧ x = .int .i64 k ∧ Bd B b (l ++ nm ++ [58] ++ (cs.take k).flatMap Sv.plC) w' ∧ Wr B b w w' ∧ Lib.TabIs Tryz.prog w' "internal/strconv.uint64pow10" .u64 Lib.pow10Tab ∧ CsAt 0 (.slice ao cs.length cap) cs w') (fun x _ => cs.length - (intOf x).toNat)
  case atStart => exact ⟨0, Nat.zero_le _, rfl, by simpa using hb2, hw2, ht2, hcs2⟩
  case round =>
    clear hb2 hw2 hC2 ht2 hcs2 d0 d1
    obtain ⟨k, hk, rfl, hbk, hwk, htk, hcsk⟩ := hrel
    by_cases hlt : k < cs.length
    · have hd : decide ((k : Int) < (cs.length : Int)) = true := by simp; omega
      obtain ⟨c, hck0⟩ : ∃ c, cs[k]? = some c := ⟨cs[k], List.getElem?_eq_getElem hlt⟩
      obtain ⟨hkd, htok⟩ := hok c (List.mem_of_getElem? hck0)
      have hsn := fm_snoc Sv.plC cs k c hck0
      have hle := fm_le Sv.plC cs (k + 1)
      have hle2 := fm_le Sv.plC cs k
      obtain ⟨g, cap', ao2, cap2, hv, q0, q1, q2, hts⟩ := hcsk.cells hck0
      simp only [Value.slice.injEq, true_and] at hv
      obtain ⟨rfl, rfl⟩ := hv
      have HSN := hide hsn
      clear hck0 hsn
      go_wp2_with fail
      have hsn5 : ((cs.take (k + 1)).flatMap Sv.plC).length = ((cs.take k).flatMap Sv.plC).length + (Sv.plC ⟨c.neg, c.kind, c.terms⟩).length := by rw [unhide HSN, List.length_append]
      have hbA := hbk.alloc (.cells #[.bool c.neg, .int .i64 c.kind, .slice ao2 c.terms.length cap2] 200)
      have hwA := hwk.alloc hbk.2 (.cells #[.bool c.neg, .int .i64 c.kind, .slice ao2 c.terms.length cap2] 200)
      have htA := tab_al htk (.cells #[.bool c.neg, .int .i64 c.kind, .slice ao2 c.terms.length cap2] 200) (by have := hbk.2; omega)
      have hcsA := hcsk.row (World.grownBy_alloc wr (.cells #[.bool c.neg, .int .i64 c.kind, .slice ao2 c.terms.length cap2] 200) none) (RowOk.none 0 0 wr) (by decide) (by decide)
      have htsA := hts.row (World.grownBy_alloc wr (.cells #[.bool c.neg, .int .i64 c.kind, .slice ao2 c.terms.length cap2] 200) none) (RowOk.none 0 0 wr) (by decide)
      refine (writeCond_w B b _ c.neg c.kind c.terms _ _ hbA htA hP htsA htok hkd (by simp only [List.length_append, List.length_singleton]; omega)).mono ?_
      rintro e W6 ⟨rfl, hb6, hw56⟩
      have hw6 := hwA.trans hw56
      have ht6 := tab_wr htA hw56 hP
      have hcs6 := hcsA.wr hw56 hbA
      clear hbA hwA hw56 htA hcsA htsA hts hbk hwk htk hcsk q0 q1 q2 hsn5
      go_wp2
      go_roundw
      case rel => exact ⟨k + 1, by omega, by go_num, by rw [unhide HSN]; simpa only [List.append_assoc] using hb6, hw6, ht6, hcs6⟩
      case measure => simp [intOf]; omega
    · obtain rfl : k = cs.length := by omega
      have hd : decide ((cs.length : Int) < (cs.length : Int)) = false := by simp
      rw [List.take_length] at hbk
      clear hlt
      go_wp2_with fail
      refine (ws_w B b _ ⟨#[59, 10]⟩ _ hbk (by simp only [List.length_append, List.length_singleton]; omega) (by decide)).mono ?_
      rintro e W5 ⟨rfl, hb5, hw5⟩
      go_wp2
      go_end0
      exact ⟨rfl, by rw [unhide HF]; exact hb5, hwk.trans hw5⟩

set_option maxHeartbeats 1000000 in
theorem plain_w (rs : List Sv.Rule) (u : Value) (w : World) (htab : Lib.TabIs Tryz.prog w "internal/strconv.uint64pow10" .u64 Lib.pow10Tab) (hP : 3 < w.heap.size) (hrs : RsAt 0 u rs w) (hok : ∀ q ∈ rs, Sv.rOk q) (hlen : (Sv.pl rs).length ≤ 900000) :
    Calls Tryz.prog 37 #[u] w fun e w' => e = .returned (.string ⟨(Sv.pl rs).toArray⟩) ∧ w.grownBy w' none := by
  obtain ⟨ao, cap, rfl⟩ := hrs.slice
  have hb0 : Bd w.heap.size w.heap.size [] (w.alloc (.cells #[.pointer none, .slice none 0 0] 125)) :=
    ⟨.inl ⟨Nat.le_refl _, .slice none 0 0, heap_alloc_new _ _, World.ownsRow_nil _ _ _ _, by simp [Value.ownBlock]⟩, by simp⟩
  have hw0 : Below w.heap.size w (w.alloc (.cells #[.pointer none, .slice none 0 0] 125)) := below_gr (World.grownBy_alloc w _ none)
  have ht0 := tab_al htab (.cells #[.pointer none, .slice none 0 0] 125) hP
  have hrs0 := hrs.row (World.grownBy_alloc w (.cells #[.pointer none, .slice none 0 0] 125) none) (RowOk.none 0 0 w) (by decide) (by decide) (by decide)
  have hmx : rs.length ≤ 900000 := by
    have := fm_ge Sv.plR plR_ge rs
    unfold Sv.pl at hlen
    omega
  unfold Sv.pl at hlen ⊢
  go_enter Tryz.func37, Tryz.ntmps37
  go_wp2
  go_loopw [8] (fun x w' => ∃ k : Nat, k ≤ rs.length ∧ x = .int .i64 k ∧ Bd w.heap.size w.heap.size ((rs.take k).flatMap Sv.plR) w' ∧ Below w.heap.size w w' ∧ Lib.TabIs Tryz.prog w' "internal/strconv.uint64pow10" .u64 Lib.pow10Tab ∧ RsAt 0 (.slice ao rs.length cap) rs w') (fun x _ => rs.length - (intOf x).toNat)
  case atStart => exact ⟨0, Nat.zero_le _, rfl, by simpa using hb0, hw0, ht0, hrs0⟩
  case round =>
    clear hb0 hw0 ht0 hrs0
    obtain ⟨k, hk, rfl, hbk, hwk, htk, hrsk⟩ := hrel
    by_cases hlt : k < rs.length
    · have hd : decide ((k : Int) < (rs.length : Int)) = true := by simp; omega
      obtain ⟨q, hqk0⟩ : ∃ q, rs[k]? = some q := ⟨rs[k], List.getElem?_eq_getElem hlt⟩
      have hqok := hok q (List.mem_of_getElem? hqk0)
      have hsn := fm_snoc Sv.plR rs k q hqk0
      have hle := fm_le Sv.plR rs (k + 1)
      have hle2 := fm_le Sv.plR rs k
      obtain ⟨g, cap', ao2, cap2, hv, q0, q1, hcs⟩ := hrsk.cells hqk0
      simp only [Value.slice.injEq, true_and] at hv
      obtain ⟨rfl, rfl⟩ := hv
      have HSN := hide hsn
      clear hqk0 hsn
      go_wp2_with fail
      have hsn5 : ((rs.take (k + 1)).flatMap Sv.plR).length = ((rs.take k).flatMap Sv.plR).length + (Sv.plR ⟨q.name, q.conds⟩).length := by rw [unhide HSN, List.length_append]
      have hbA := hbk.alloc (.cells #[.string ⟨q.name.toArray⟩, .slice ao2 q.conds.length cap2] 128)
      have hwA := hwk.alloc hbk.2 (.cells #[.string ⟨q.name.toArray⟩, .slice ao2 q.conds.length cap2] 128)
      have htA := tab_al htk (.cells #[.string ⟨q.name.toArray⟩, .slice ao2 q.conds.length cap2] 128) (by have := hbk.2; omega)
      have hrsA := hrsk.row (World.grownBy_alloc wr (.cells #[.string ⟨q.name.toArray⟩, .slice ao2 q.conds.length cap2] 128) none) (RowOk.none 0 0 wr) (by decide) (by decide) (by decide)
      have hcsA := hcs.row (World.grownBy_alloc wr (.cells #[.string ⟨q.name.toArray⟩, .slice ao2 q.conds.length cap2] 128) none) (RowOk.none 0 0 wr) (by decide) (by decide)
      refine (writeRule_w _ _ _ q.name q.conds _ _ hbA htA hP hcsA hqok (by omega)).mono ?_
      rintro e W6 ⟨rfl, hb6, hw56⟩
      have hw6 := hwA.trans hw56.1
      have ht6 := tab_wr htA hw56 hP
      have hrs6 := hrsA.wr hw56 hbA
      clear hbA hwA hw56 htA hrsA hcsA hcs hbk hwk htk hrsk q0 q1 hsn5
      go_wp2
      go_roundw
      case rel => exact ⟨k + 1, by omega, by go_num, by rw [unhide HSN]; exact hb6, hw6, ht6, hrs6⟩
      case measure => simp [intOf]; omega
    · obtain rfl : k = rs.length := by omega
      have hd : decide ((rs.length : Int) < (rs.length : Int)) = false := by simp
      rw [List.take_length] at hbk
      clear hlt
      go_wp2_with fail
      refine (Tryz.Builder_String_any_f _ _ (rs.flatMap Sv.plR) _ (Lib.IsBuilderF.of hbk.1) hbk.2).mono ?_
      rintro e W5 ⟨rfl, hb5⟩
      have hg5 := gr_below (hwk.trans hb5.2) none
      go_wp2
      go_ret
      exact ⟨rfl, hg5⟩

end Go.Proofs.YtolhbeekfjnfmaaGreatDoor

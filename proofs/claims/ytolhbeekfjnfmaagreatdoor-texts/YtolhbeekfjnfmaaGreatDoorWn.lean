/- Writing terms and conditions in their plain form. -/
import Derived.Test.YtolhbeekfjnfmaaGreatDoorWm
namespace Go.Proofs.YtolhbeekfjnfmaaGreatDoor
open Go.RowKit

def Sv.plT (t : Sv.Term) : List UInt8 := if t.sort = 0 then [95] else if t.sort = 1 then [t.letter] else if t.sort = 2 then Lib.itoa t.value else []
def Sv.plC (c : Sv.Cond) : List UInt8 := (if c.neg = true then [33] else []) ++ [40] ++ Lib.itoa c.kind ++ c.terms.flatMap (fun t => 32 :: Sv.plT t) ++ [41]
def Sv.plR (q : Sv.Rule) : List UInt8 := q.name ++ [58] ++ q.conds.flatMap Sv.plC ++ [59, 10]
def Sv.pl (rs : List Sv.Rule) : List UInt8 := rs.flatMap Sv.plR

theorem size_of (l : List UInt8) : (⟨l.toArray⟩ : ByteArray).size = l.length := by simp [ByteArray.size]

/-- A term whose number is one that a text can hold. -/
def Sv.tOk (t : Sv.Term) : Prop := -1000000000 ≤ t.value ∧ t.value ≤ 1000000000

theorem Bd.block {B b : Nat} {l : List UInt8} {w : World} (h : Bd B b l w) : ∃ p v, w.heap[b]? = some (.cells #[p, v] 125 (0, 0)) := by
  rcases h.1 with ⟨_, v, h1, _⟩ | ⟨_, v, h1, _⟩
  · exact ⟨_, v, h1⟩
  · exact ⟨_, v, h1⟩
theorem Bd.B {B b : Nat} {l : List UInt8} {w : World} (h : Bd B b l w) : B ≤ b ∧ b < w.heap.size := by
  rcases h.1 with h1 | h1
  · exact ⟨h1.1, h1.lt⟩
  · exact ⟨h1.1, h1.lt⟩
/-- A block of another type stands as it stood. -/
theorem Wr.keep {B b : Nat} {l : List UInt8} {w w' : World} (h : Wr B b w w') (hb : Bd B b l w) {k : Nat} {cs : Array Value} {e : TypeId} {fz : Nat × Nat} (hk : w.heap[k]? = some (.cells cs e fz)) (he : e ≠ 5) (he2 : e ≠ 125) : w'.heap[k]? = some (.cells cs e fz) := by
  refine h.2 k _ hk (fun e1 => ?_) (fun c f e1 => ?_)
  · obtain ⟨p, v, h1⟩ := hb.block
    cases e1
    rw [hk] at h1
    simp at h1
    exact he2 h1.2.1
  · simp at e1
    exact he e1.2.1
theorem own_wr {w w' : World} {B b : Nat} {l : List UInt8} {base : Nat} {e : TypeId} {size : Nat} {v : Value} {n : Nat} {xs : List Value} (h : w.ownsRow base e size v n xs) (hw : Wr B b w w') (hb : Bd B b l w) (he : e ≠ 5) (he2 : e ≠ 125) : w'.ownsRow base e size v n xs := by
  refine ⟨h.1, ?_⟩
  rcases h.2 with h1 | ⟨g, cap, cur, h1, h2, h3, h4⟩
  · exact .inl h1
  · exact .inr ⟨g, cap, cur, h1, h2, hw.keep hb h3 he he2, h4⟩
theorem TsAt.wr {w w' : World} {B b : Nat} {l : List UInt8} {base : Nat} {v : Value} {ts : List Sv.Term} (h : TsAt base v ts w) (hw : Wr B b w w') (hb : Bd B b l w) : TsAt base v ts w' := own_wr h hw hb (by decide) (by decide)
theorem tab_wr {w w' : World} {B b : Nat} (h : Lib.TabIs Tryz.prog w "internal/strconv.uint64pow10" .u64 Lib.pow10Tab) (hw : Wr B b w w') (hB : 3 < B) : Lib.TabIs Tryz.prog w' "internal/strconv.uint64pow10" .u64 Lib.pow10Tab :=
  var?_below hw.1 Tryz.powIs hB h
theorem tab_al {w : World} (h : Lib.TabIs Tryz.prog w "internal/strconv.uint64pow10" .u64 Lib.pow10Tab) (o : Obj) (hB : 3 < w.heap.size) : Lib.TabIs Tryz.prog (w.alloc o) "internal/strconv.uint64pow10" .u64 Lib.pow10Tab :=
  var?_below (below_gr (World.grownBy_alloc w o none)) Tryz.powIs hB h

set_option maxHeartbeats 400000 in
theorem writeTerm_w (B b : Nat) (l : List UInt8) (t : Sv.Term) (w : World) (h : Bd B b l w) (htab : Lib.TabIs Tryz.prog w "internal/strconv.uint64pow10" .u64 Lib.pow10Tab) (hP : 3 < B) (hok : Sv.tOk t) (hlen : l.length + (Sv.plT t).length ≤ 900000) :
    Calls Tryz.prog 132 #[.pointer (some ⟨b, 0, none⟩), .agg #[.int .i64 t.sort, .int .u8 t.letter.toNat, .int .i64 t.value]] w fun e w' => e = .returned (.tuple #[]) ∧ Bd B b (l ++ Sv.plT t) w' ∧ Wr B b w w' := by
  have hBw := h.2
  by_cases h0 : t.sort = 0
  · have e0 : ((t.sort : Int) == 0) = true := by simp; omega
    have ep : Sv.plT t = [95] := by unfold Sv.plT; rw [if_pos h0]
    rw [ep]
    clear h0 ep
    go_enter Tryz.func132, Tryz.ntmps132
    go_wp2_with fail
    refine (wb_w B b l 95 _ rfl _ (h.alloc _) (by omega)).mono ?_
    rintro e w1 ⟨rfl, hb1, hw1⟩
    go_wp2
    go_end0
    exact ⟨rfl, hb1, hw1.un hBw⟩
  · have e0 : ((t.sort : Int) == 0) = false := by simp; omega
    by_cases h1 : t.sort = 1
    · have e1 : ((t.sort : Int) == 1) = true := by simp; omega
      have ep : Sv.plT t = [t.letter] := by unfold Sv.plT; rw [if_neg h0, if_pos h1]
      rw [ep]
      clear h0 h1 ep
      go_enter Tryz.func132, Tryz.ntmps132
      go_wp2_with fail
      refine (wb_w B b l t.letter _ rfl _ (h.alloc _) (by omega)).mono ?_
      rintro e w1 ⟨rfl, hb1, hw1⟩
      go_wp2
      go_end0
      exact ⟨rfl, hb1, hw1.un hBw⟩
    · have e1 : ((t.sort : Int) == 1) = false := by simp; omega
      by_cases h2 : t.sort = 2
      · have e2 : ((t.sort : Int) == 2) = true := by simp; omega
        have ep : Sv.plT t = Lib.itoa t.value := by unfold Sv.plT; rw [if_neg h0, if_neg h1, if_pos h2]
        rw [ep] at hlen ⊢
        obtain ⟨hv1, hv2⟩ := hok
        clear h0 h1 h2 ep
        go_enter Tryz.func132, Tryz.ntmps132
        go_wp2_with fail
        refine (itoa_w t.value (by omega) (by omega) _ (tab_al htab _ (by omega))).mono ?_
        rintro e w1 ⟨rfl, hg1⟩
        have hb1 := (h.alloc (.cells #[.int .i64 t.sort, .int .u8 t.letter.toNat, .int .i64 t.value] 258)).gr hg1
        go_wp2_with fail
        refine (ws_w B b l ⟨(Lib.itoa t.value).toArray⟩ w1 hb1 (by omega) (by rw [size_of]; omega)).mono ?_
        rintro e w2 ⟨rfl, hb2, hw2⟩
        go_wp2
        go_end0
        exact ⟨rfl, hb2, (((Wr.refl B b w).alloc hBw _).gr hg1 (by simp; omega)).trans hw2⟩
      · have e2 : ((t.sort : Int) == 2) = false := by simp; omega
        have ep : Sv.plT t = [] := by unfold Sv.plT; rw [if_neg h0, if_neg h1, if_neg h2]
        rw [ep, List.append_nil]
        clear h0 h1 h2 ep
        go_enter Tryz.func132, Tryz.ntmps132
        go_wp2
        go_end0
        exact ⟨rfl, h.alloc _, (Wr.refl B b w).alloc hBw _⟩

/-- Where the k-th of some rows of three cells lies. -/
theorem flat3 (f : Sv.Term → List Value) (hf : ∀ t, (f t).length = 3) : ∀ (ts : List Sv.Term) (k : Nat) (t : Sv.Term), ts[k]? = some t → ∀ j, j < 3 → (ts.flatMap f)[k * 3 + j]? = (f t)[j]?
  | [], k, t, h, _, _ => by simp at h
  | a :: ts, 0, t, h, j, hj => by
    simp at h
    subst h
    rw [List.flatMap_cons, List.getElem?_append_left (by rw [hf]; omega)]
    simp
  | a :: ts, k + 1, t, h, j, hj => by
    rw [List.flatMap_cons, List.getElem?_append_right (by rw [hf]; omega), hf]
    have := flat3 f hf ts k t (by simpa using h) j hj
    rw [show (k + 1) * 3 + j - 3 = k * 3 + j from by omega]
    exact this

theorem TsAt.cells {base : Nat} {v : Value} {ts : List Sv.Term} {w : World} (h : TsAt base v ts w) {k : Nat} {t : Sv.Term} (hk : ts[k]? = some t) :
    ∃ g cap, v = .slice (some ⟨g, 0, none⟩) ts.length cap ∧ w.cell? ⟨g, k * 3, none⟩ = some (.int .i64 t.sort) ∧ w.cell? ⟨g, k * 3 + 1, none⟩ = some (.int .u8 t.letter.toNat) ∧ w.cell? ⟨g, k * 3 + 2, none⟩ = some (.int .i64 t.value) := by
  have hlt : k < ts.length := (List.getElem?_eq_some_iff.1 hk).1
  rcases h.2 with ⟨_, h2⟩ | ⟨g, cap, cur, h1, h2⟩
  · omega
  · subst h1
    have h3 := World.ownsRow.cellAt (w := w) (base := base) (e := 258) (size := 3) (g := g) (n := ts.length) (cap := cap) (xs := ts.flatMap tcells) h
    refine ⟨g, cap, rfl, ?_, ?_, ?_⟩
    · rw [h3 (k * 3) (by omega)]; exact flat3 tcells (fun _ => rfl) ts k t hk 0 (by omega)
    · rw [h3 (k * 3 + 1) (by omega)]; exact flat3 tcells (fun _ => rfl) ts k t hk 1 (by omega)
    · rw [h3 (k * 3 + 2) (by omega)]; exact flat3 tcells (fun _ => rfl) ts k t hk 2 (by omega)

/-- What was written of the terms so far. -/
def Sv.tms (ts : List Sv.Term) : List UInt8 := ts.flatMap (fun t => 32 :: Sv.plT t)
theorem Sv.tms_snoc (ts : List Sv.Term) (k : Nat) (t : Sv.Term) (h : ts[k]? = some t) : Sv.tms (ts.take (k + 1)) = Sv.tms (ts.take k) ++ (32 :: Sv.plT t) := by
  obtain ⟨hlt, rfl⟩ := List.getElem?_eq_some_iff.1 h
  unfold Sv.tms
  rw [List.take_succ_eq_append_getElem hlt, List.flatMap_append, List.flatMap_cons, List.flatMap_nil, List.append_nil]
theorem Sv.tms_le (ts : List Sv.Term) (k : Nat) : (Sv.tms (ts.take k)).length ≤ (Sv.tms ts).length := by
  have h : Sv.tms ts = Sv.tms (ts.take k) ++ Sv.tms (ts.drop k) := by
    unfold Sv.tms
    rw [← List.flatMap_append, List.take_append_drop]
  rw [h, List.length_append]
  omega

theorem Sv.tms_ge (ts : List Sv.Term) : ts.length ≤ (Sv.tms ts).length := by
  unfold Sv.tms
  induction ts with
  | nil => simp
  | cons a ts ih => rw [List.flatMap_cons, List.length_append]; simp at ih ⊢; omega
theorem C3.wr {T : TypeId} {N : Nat} {x y z : Value} {w w' : World} {B b : Nat} {l : List UInt8} (h : C3 T N x y z w) (hw : Wr B b w w') (hb : Bd B b l w) (he : T ≠ 5) (he2 : T ≠ 125) : C3 T N x y z w' := hw.keep hb h he he2

set_option maxHeartbeats 1000000 in
theorem writeCond_w (B b : Nat) (l : List UInt8) (ng : Bool) (kd : Nat) (ts : List Sv.Term) (u : Value) (w : World) (h : Bd B b l w) (htab : Lib.TabIs Tryz.prog w "internal/strconv.uint64pow10" .u64 Lib.pow10Tab) (hP : 3 < B) (hts : TsAt 0 u ts w) (hok : ∀ t ∈ ts, Sv.tOk t) (hkd : kd ≤ 9) (hlen : l.length + (Sv.plC ⟨ng, kd, ts⟩).length ≤ 900000) :
    Calls Tryz.prog 99 #[.pointer (some ⟨b, 0, none⟩), .agg #[.bool ng, .int .i64 kd, u]] w fun e w' => e = .returned (.tuple #[]) ∧ Bd B b (l ++ Sv.plC ⟨ng, kd, ts⟩) w' ∧ Wr B b w w' := by
  have hBw := h.2
  have hBb := h.B
  obtain ⟨ao, cap, rfl⟩ := hts.slice
  have hC0 : C3 200 w.heap.size (.bool ng) (.int .i64 kd) (.slice ao ts.length cap) (w.alloc (.cells #[.bool ng, .int .i64 kd, .slice ao ts.length cap] 200)) := heap_alloc_new _ _
  have hb0 := h.alloc (.cells #[.bool ng, .int .i64 kd, .slice ao ts.length cap] 200)
  have hw0 := (Wr.refl B b w).alloc hBw (.cells #[.bool ng, .int .i64 kd, .slice ao ts.length cap] 200)
  have ht0 := tab_al htab (.cells #[.bool ng, .int .i64 kd, .slice ao ts.length cap] 200) (by omega)
  have hts0 := hts.row (World.grownBy_alloc w (.cells #[.bool ng, .int .i64 kd, .slice ao ts.length cap] 200) none) (RowOk.none 0 0 w) (by decide)
  obtain ⟨l0, hl0⟩ : ∃ l0 : List UInt8, (if ng = true then [33] else ([] : List UInt8)) = l0 := ⟨_, rfl⟩
  have hfin : l ++ Sv.plC ⟨ng, kd, ts⟩ = l ++ l0 ++ [40] ++ Lib.itoa kd ++ Sv.tms ts ++ [41] := by
    unfold Sv.plC Sv.tms
    simp only [hl0, List.append_assoc]
  have hsz : l.length + l0.length + (Lib.itoa kd).length + (Sv.tms ts).length + 2 ≤ 900000 := by
    have := congrArg List.length hfin
    simp only [List.length_append, List.length_singleton] at this
    omega
  have HF := hide hfin
  clear hfin hlen
  cases ng
  · have e0 : l0 = [] := by simpa using hl0.symm
    rw [show l = l ++ l0 from by rw [e0, List.append_nil]] at hb0
    clear e0 hl0
    go_enter Tryz.func99, Tryz.ntmps99
    go_wp2_with fail
    generalize (w.alloc (.cells #[.bool false, .int .i64 kd, .slice ao ts.length cap] 200)) = W1 at *
    have hb1 := hb0
    have hw1 := hw0
    have hC1 := hC0
    have ht1 := ht0
    have hts1 := hts0
    clear hb0 hw0 hC0 ht0 hts0
    refine (wb_w B b (l ++ l0) 40 _ rfl _ hb1 (by simp; omega)).mono ?_
    rintro e W2 ⟨rfl, hb2, hw12⟩
    have hw2 := hw1.trans hw12
    have hC2 := hC1.wr hw12 hb1 (by decide) (by decide)
    have ht2 := tab_wr ht1 hw12 hP
    have hts2 := hts1.wr hw12 hb1
    clear hb1 hw1 hw12 hC1 ht1 hts1
    obtain ⟨d0, d1, d2⟩ := hC2.c
    go_wp2_with fail
    refine (itoa_w kd (by omega) (by omega) _ ht2).mono ?_
    rintro e W3 ⟨rfl, hg3⟩
    have hb3 := hb2.gr hg3
    have hw3 := hw2.gr hg3 hb2.2
    have hC3 := hC2.kept hg3 (by simp)
    have ht3 : Lib.TabIs Tryz.prog W3 "internal/strconv.uint64pow10" .u64 Lib.pow10Tab := var?_below (below_gr hg3) Tryz.powIs (by have := hb2.2; omega) ht2
    have hts3 := hts2.row hg3 (RowOk.none 0 0 W2) (by decide)
    clear hb2 hw2 hg3 hC2 ht2 hts2 d0 d1 d2
    go_wp2_with fail
    refine (ws_w B b (l ++ l0 ++ [40]) ⟨(Lib.itoa kd).toArray⟩ W3 hb3 (by simp; omega) (by rw [size_of]; omega)).mono ?_
    rintro e W4 ⟨rfl, hb4, hw34⟩
    have hw4 := hw3.trans hw34
    have hC4 := hC3.wr hw34 hb3 (by decide) (by decide)
    have ht4 := tab_wr ht3 hw34 hP
    have hts4 := hts3.wr hw34 hb3
    clear hb3 hw3 hw34 hC3 ht3 hts3
    obtain ⟨d0, d1, d2⟩ := hC4.c
    go_wp2
    go_loopw [20] (fun x w' => ∃ k : Nat, k ≤ ts.length ∧ x = .int .i64 k ∧ Bd B b (l ++ l0 ++ [40] ++ Lib.itoa kd ++ Sv.tms (ts.take k)) w' ∧ Wr B b w w' ∧ Lib.TabIs Tryz.prog w' "internal/strconv.uint64pow10" .u64 Lib.pow10Tab ∧ TsAt 0 (.slice ao ts.length cap) ts w') (fun x _ => ts.length - (intOf x).toNat)
    case atStart => exact ⟨0, Nat.zero_le _, rfl, by simpa [Sv.tms] using hb4, hw4, ht4, hts4⟩
    case round =>
      clear hb4 hw4 hC4 ht4 hts4 d0 d1 d2
      obtain ⟨k, hk, rfl, hbk, hwk, htk, htsk⟩ := hrel
      by_cases hlt : k < ts.length
      · have hd : decide ((k : Int) < (ts.length : Int)) = true := by simp; omega
        obtain ⟨t, htk0⟩ : ∃ t, ts[k]? = some t := ⟨ts[k], List.getElem?_eq_getElem hlt⟩
        have htok := hok t (List.mem_of_getElem? htk0)
        have hsn := Sv.tms_snoc ts k t htk0
        have hle := Sv.tms_le ts (k + 1)
        have hle2 := Sv.tms_le ts k
        obtain ⟨g, cap', hv, q0, q1, q2⟩ := htsk.cells htk0
        simp only [Value.slice.injEq, true_and] at hv
        obtain ⟨rfl, rfl⟩ := hv
        have HT := hide htk0
        have HSN := hide hsn
        clear htk0 hsn
        have hmx : ts.length ≤ 900000 := by
          have : ts.length ≤ (Sv.tms ts).length := Sv.tms_ge ts
          omega
        go_wp2_with fail
        have hbA := hbk.alloc (.cells #[.int .i64 t.sort, .int .u8 t.letter.toNat, .int .i64 t.value] 258)
        have hwA := hwk.alloc hbk.2 (.cells #[.int .i64 t.sort, .int .u8 t.letter.toNat, .int .i64 t.value] 258)
        have htA := tab_al htk (.cells #[.int .i64 t.sort, .int .u8 t.letter.toNat, .int .i64 t.value] 258) (by have := hbk.2; omega)
        have htsA := htsk.row (World.grownBy_alloc wr (.cells #[.int .i64 t.sort, .int .u8 t.letter.toNat, .int .i64 t.value] 258) none) (RowOk.none 0 0 wr) (by decide)
        have hCA : C3 258 wr.heap.size (.int .i64 t.sort) (.int .u8 t.letter.toNat) (.int .i64 t.value) (wr.alloc (.cells #[.int .i64 t.sort, .int .u8 t.letter.toNat, .int .i64 t.value] 258)) := heap_alloc_new _ _
        clear hbk hwk htk htsk q0 q1 q2
        refine (wb_w B b _ 32 _ rfl _ hbA (by simp only [List.length_append, List.length_singleton]; omega)).mono ?_
        rintro e W5 ⟨rfl, hb5, hwA5⟩
        have hw5 := hwA.trans hwA5
        have ht5 := tab_wr htA hwA5 hP
        have hts5 := htsA.wr hwA5 hbA
        obtain ⟨r0, r1, r2⟩ := (hCA.wr hwA5 hbA (by decide) (by decide)).c
        clear hbA hwA htA htsA hCA hwA5
        go_wp2_with fail
        have hsn5 : (Sv.tms (List.take (k + 1) ts)).length = (Sv.tms (List.take k ts)).length + 1 + (Sv.plT t).length := by rw [unhide HSN, List.length_append, List.length_cons]; omega
        refine (writeTerm_w B b _ t W5 hb5 ht5 hP htok (by simp only [List.length_append, List.length_singleton]; omega)).mono ?_
        rintro e W6 ⟨rfl, hb6, hw56⟩
        have hw6 := hw5.trans hw56
        have ht6 := tab_wr ht5 hw56 hP
        have hts6 := hts5.wr hw56 hb5
        clear hb5 hw5 hw56 ht5 hts5 r0 r1 r2 hsn5
        go_wp2
        go_roundw
        case rel => exact ⟨k + 1, by omega, by go_num, by rw [unhide HSN]; simpa only [List.append_assoc, List.cons_append, List.nil_append] using hb6, hw6, ht6, hts6⟩
        case measure => simp [intOf]; omega
      · obtain rfl : k = ts.length := by omega
        have hd : decide ((ts.length : Int) < (ts.length : Int)) = false := by simp
        rw [List.take_length] at hbk
        clear hlt
        go_wp2_with fail
        refine (wb_w B b _ 41 _ rfl _ hbk (by simp only [List.length_append, List.length_singleton]; omega)).mono ?_
        rintro e W5 ⟨rfl, hb5, hw5⟩
        go_wp2
        go_end0
        exact ⟨rfl, by rw [unhide HF]; exact hb5, hwk.trans hw5⟩
  · have e0 : l0 = [33] := by simpa using hl0.symm
    go_enter Tryz.func99, Tryz.ntmps99
    go_wp2_with fail
    refine (wb_w B b l 33 _ rfl _ hb0 (by omega)).mono ?_
    rintro e W1 ⟨rfl, hb1, hw01⟩
    rw [← e0] at hb1
    have hw1 := hw0.trans hw01
    have hC1 := hC0.wr hw01 hb0 (by decide) (by decide)
    have ht1 := tab_wr ht0 hw01 hP
    have hts1 := hts0.wr hw01 hb0
    clear e0 hl0 hb0 hw01 hw0 hC0 ht0 hts0
    go_wp2_with fail
    refine (wb_w B b (l ++ l0) 40 _ rfl _ hb1 (by simp; omega)).mono ?_
    rintro e W2 ⟨rfl, hb2, hw12⟩
    have hw2 := hw1.trans hw12
    have hC2 := hC1.wr hw12 hb1 (by decide) (by decide)
    have ht2 := tab_wr ht1 hw12 hP
    have hts2 := hts1.wr hw12 hb1
    clear hb1 hw1 hw12 hC1 ht1 hts1
    obtain ⟨d0, d1, d2⟩ := hC2.c
    go_wp2_with fail
    refine (itoa_w kd (by omega) (by omega) _ ht2).mono ?_
    rintro e W3 ⟨rfl, hg3⟩
    have hb3 := hb2.gr hg3
    have hw3 := hw2.gr hg3 hb2.2
    have hC3 := hC2.kept hg3 (by simp)
    have ht3 : Lib.TabIs Tryz.prog W3 "internal/strconv.uint64pow10" .u64 Lib.pow10Tab := var?_below (below_gr hg3) Tryz.powIs (by have := hb2.2; omega) ht2
    have hts3 := hts2.row hg3 (RowOk.none 0 0 W2) (by decide)
    clear hb2 hw2 hg3 hC2 ht2 hts2 d0 d1 d2
    go_wp2_with fail
    refine (ws_w B b (l ++ l0 ++ [40]) ⟨(Lib.itoa kd).toArray⟩ W3 hb3 (by simp; omega) (by rw [size_of]; omega)).mono ?_
    rintro e W4 ⟨rfl, hb4, hw34⟩
    have hw4 := hw3.trans hw34
    have hC4 := hC3.wr hw34 hb3 (by decide) (by decide)
    have ht4 := tab_wr ht3 hw34 hP
    have hts4 := hts3.wr hw34 hb3
    clear hb3 hw3 hw34 hC3 ht3 hts3
    obtain ⟨d0, d1, d2⟩ := hC4.c
    go_wp2
    go_loopw [20] (fun x w' => ∃ k : Nat, k ≤ ts.length ∧ x = .int .i64 k ∧ Bd B b (l ++ l0 ++ [40] ++ Lib.itoa kd ++ Sv.tms (ts.take k)) w' ∧ Wr B b w w' ∧ Lib.TabIs Tryz.prog w' "internal/strconv.uint64pow10" .u64 Lib.pow10Tab ∧ TsAt 0 (.slice ao ts.length cap) ts w') (fun x _ => ts.length - (intOf x).toNat)
    case atStart => exact ⟨0, Nat.zero_le _, rfl, by simpa [Sv.tms] using hb4, hw4, ht4, hts4⟩
    case round =>
      clear hb4 hw4 hC4 ht4 hts4 d0 d1 d2
      obtain ⟨k, hk, rfl, hbk, hwk, htk, htsk⟩ := hrel
      by_cases hlt : k < ts.length
      · have hd : decide ((k : Int) < (ts.length : Int)) = true := by simp; omega
        obtain ⟨t, htk0⟩ : ∃ t, ts[k]? = some t := ⟨ts[k], List.getElem?_eq_getElem hlt⟩
        have htok := hok t (List.mem_of_getElem? htk0)
        have hsn := Sv.tms_snoc ts k t htk0
        have hle := Sv.tms_le ts (k + 1)
        have hle2 := Sv.tms_le ts k
        obtain ⟨g, cap', hv, q0, q1, q2⟩ := htsk.cells htk0
        simp only [Value.slice.injEq, true_and] at hv
        obtain ⟨rfl, rfl⟩ := hv
        have HT := hide htk0
        have HSN := hide hsn
        clear htk0 hsn
        have hmx : ts.length ≤ 900000 := by
          have : ts.length ≤ (Sv.tms ts).length := Sv.tms_ge ts
          omega
        go_wp2_with fail
        have hbA := hbk.alloc (.cells #[.int .i64 t.sort, .int .u8 t.letter.toNat, .int .i64 t.value] 258)
        have hwA := hwk.alloc hbk.2 (.cells #[.int .i64 t.sort, .int .u8 t.letter.toNat, .int .i64 t.value] 258)
        have htA := tab_al htk (.cells #[.int .i64 t.sort, .int .u8 t.letter.toNat, .int .i64 t.value] 258) (by have := hbk.2; omega)
        have htsA := htsk.row (World.grownBy_alloc wr (.cells #[.int .i64 t.sort, .int .u8 t.letter.toNat, .int .i64 t.value] 258) none) (RowOk.none 0 0 wr) (by decide)
        have hCA : C3 258 wr.heap.size (.int .i64 t.sort) (.int .u8 t.letter.toNat) (.int .i64 t.value) (wr.alloc (.cells #[.int .i64 t.sort, .int .u8 t.letter.toNat, .int .i64 t.value] 258)) := heap_alloc_new _ _
        clear hbk hwk htk htsk q0 q1 q2
        refine (wb_w B b _ 32 _ rfl _ hbA (by simp only [List.length_append, List.length_singleton]; omega)).mono ?_
        rintro e W5 ⟨rfl, hb5, hwA5⟩
        have hw5 := hwA.trans hwA5
        have ht5 := tab_wr htA hwA5 hP
        have hts5 := htsA.wr hwA5 hbA
        obtain ⟨r0, r1, r2⟩ := (hCA.wr hwA5 hbA (by decide) (by decide)).c
        clear hbA hwA htA htsA hCA hwA5
        go_wp2_with fail
        have hsn5 : (Sv.tms (List.take (k + 1) ts)).length = (Sv.tms (List.take k ts)).length + 1 + (Sv.plT t).length := by rw [unhide HSN, List.length_append, List.length_cons]; omega
        refine (writeTerm_w B b _ t W5 hb5 ht5 hP htok (by simp only [List.length_append, List.length_singleton]; omega)).mono ?_
        rintro e W6 ⟨rfl, hb6, hw56⟩
        have hw6 := hw5.trans hw56
        have ht6 := tab_wr ht5 hw56 hP
        have hts6 := hts5.wr hw56 hb5
        clear hb5 hw5 hw56 ht5 hts5 r0 r1 r2 hsn5
        go_wp2
        go_roundw
        case rel => exact ⟨k + 1, by omega, by go_num, by rw [unhide HSN]; simpa only [List.append_assoc, List.cons_append, List.nil_append] using hb6, hw6, ht6, hts6⟩
        case measure => simp [intOf]; omega
      · obtain rfl : k = ts.length := by omega
        have hd : decide ((ts.length : Int) < (ts.length : Int)) = false := by simp
        rw [List.take_length] at hbk
        clear hlt
        go_wp2_with fail
        refine (wb_w B b _ 41 _ rfl _ hbk (by simp only [List.length_append, List.length_singleton]; omega)).mono ?_
        rintro e W5 ⟨rfl, hb5, hw5⟩
        go_wp2
        go_end0
        exact ⟨rfl, by rw [unhide HF]; exact hb5, hwk.trans hw5⟩

end Go.Proofs.YtolhbeekfjnfmaaGreatDoor

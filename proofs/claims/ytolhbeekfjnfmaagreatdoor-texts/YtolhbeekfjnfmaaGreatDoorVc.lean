/- The document's reader: conditions. -/
import Derived.Test.YtolhbeekfjnfmaaGreatDoorVb
namespace Go.Proofs.YtolhbeekfjnfmaaGreatDoor
open Go.RowKit

/-- A term's cells, as the document's reader lays them. -/
def vtcells (t : Sv.Term) : List Value := [.int .u8 t.letter.toNat, .int .i64 t.value, .bool (t.sort == 0)]
/-- A list of terms lies behind a slice. -/
def VTsAt (base : Nat) (u : Value) (ts : List Sv.Term) (w : World) : Prop := w.ownsRow base 169 3 u ts.length (ts.flatMap vtcells)
theorem VTsAt.slice {base : Nat} {u : Value} {ts : List Sv.Term} {w : World} (h : VTsAt base u ts w) : ∃ ao cap, u = .slice ao ts.length cap := by
  rcases h.2 with ⟨h1, h2⟩ | ⟨g, cap, cur, h1, _⟩
  · exact ⟨none, 0, by rw [h2]; exact h1⟩
  · exact ⟨_, _, h1⟩
theorem VTsAt.row {w w' : World} {base base' : Nat} {e' : TypeId} {v : Value} {ts : List Sv.Term} {row : Option Nat} (h : VTsAt base v ts w) (hg : w.grownBy w' row) (hr : RowOk base' e' row w) (hne : e' ≠ 169) : VTsAt base v ts w' := own_row h hg hr hne
theorem Tryz.infoVTerm : (Tryz.prog.info? 169).map (fun i => (i.zero, i.size, i.bytes)) = some (some (.agg #[.int .u8 0, .int .i64 0, .bool false]), 3, 24) := by kernel_rfl

theorem Sv.behind_sk (l : List UInt8) (i : Nat) (h : i < Sv.sk l i) : Sv.behind l (Sv.sk l i) = false := by
  have hb : ∀ j, i ≤ j → j < Sv.sk l i → Sv.blB (Sv.pk l j) = true := by
    intro j h1 h2
    unfold Sv.sk at h2
    have h3 : j - i < ((l.drop i).takeWhile Sv.blB).length := by omega
    have h4 := List.all_eq_true.1 (List.all_takeWhile (l := l.drop i) (p := Sv.blB)) _ (List.getElem_mem h3)
    have h5 : ((l.drop i).takeWhile Sv.blB)[j - i] = Sv.pk l j := by
      have h6 := (List.takeWhile_prefix Sv.blB (l := l.drop i)).getElem h3
      rw [h6]
      have h7 : j < l.length := by
        have := (List.takeWhile_prefix Sv.blB (l := l.drop i)).length_le
        rw [List.length_drop] at this
        omega
      rw [Sv.pk_at l j h7, List.getElem_drop]
      congr 1
      omega
    rw [h5] at h4
    exact h4
  have h1 := hb (Sv.sk l i - 1) (by omega) (by omega)
  unfold Sv.behind
  have h2 : Sv.digB (Sv.pk l (Sv.sk l i - 1)) = false := by
    cases hd : Sv.digB (Sv.pk l (Sv.sk l i - 1))
    · rfl
    · have h3 := Sv.dig_rng _ hd
      simp [Sv.blB] at h1
      rcases h1 with h1 | h1 <;> rw [h1] at h3 <;> simp at h3
  rw [h2, Bool.and_false]

theorem C3.row {T : TypeId} {N : Nat} {x y z : Value} {w w' : World} {row : Option Nat} {base : Nat} {e : TypeId} (h : C3 T N x y z w) (hg : w.grownBy w' row) (hr : RowOk base e row w) (he : e ≠ T) : C3 T N x y z w' := by
  refine h.kept hg (fun e1 => ?_)
  obtain ⟨_, cur, fz, h2⟩ := hr N e1.symm
  unfold C3 at h
  rw [h] at h2
  simp at h2
  exact he h2.2.1.symm
theorem C3.drewN {T : TypeId} {N : Nat} {x y z : Value} {w : World} (h : C3 T N x y z w) (n : Nat) : C3 T N x y z (w.drewN n) := h
theorem C3.put2 {T : TypeId} {N : Nat} {a b c : Value} {w : World} (h : C3 T N a b c w) (x : Value) : C3 T N a b x (w.setCell ⟨N, 2, none⟩ x) := by
  unfold C3 at h ⊢
  rw [heap_setCell_same w N 2 _ _ x h]; rfl
theorem C3.put1 {T : TypeId} {N : Nat} {a b c : Value} {w : World} (h : C3 T N a b c w) (x : Value) : C3 T N a x c (w.setCell ⟨N, 1, none⟩ x) := by
  unfold C3 at h ⊢
  rw [heap_setCell_same w N 1 _ _ x h]; rfl
theorem Sv.let_rng (c : UInt8) (h : Sv.letB c = true) : 97 ≤ c.toNat ∧ c.toNat ≤ 122 := by simpa [Sv.letB] using h
theorem Sv.let_ne (c d : UInt8) (h : Sv.letB c = true) (hd : d.toNat < 97) : (c == d) = false := by
  have := Sv.let_rng c h
  rw [beq_eq_false_iff_ne]
  intro e
  rw [e] at this
  omega
theorem Sv.dig_ne (c d : UInt8) (h : Sv.digB c = true) (hd : d.toNat < 48 ∨ 57 < d.toNat) : (c == d) = false := by
  have := Sv.dig_rng c h
  rw [beq_eq_false_iff_ne]
  intro e
  rw [e] at this
  omega
theorem Sv.dig_let (c : UInt8) (h : Sv.letB c = true) : Sv.digB c = false := by
  have := Sv.let_rng c h
  cases hd : Sv.digB c
  · rfl
  · have := Sv.dig_rng c hd; omega
theorem u8_41 (c : UInt8) : ((c.toNat : Int) == 41) = (c == 41) := u8_inj c 41

theorem cell_newD (w : World) (n : Nat) (C : Array Value) (T : TypeId) (j : Nat) : ((w.drewN n).alloc (.cells C T)).cell? ⟨w.heap.size, j, none⟩ = C[j]? := World.cell?_alloc_mark (w.drewN n) C T (0, 0) j

/-- A list of terms is laid into the condition. -/
theorem vterm_fin {w w4 : World} {b : Nat} {s : ByteArray} {k : Nat} {bd nt : Bool} {C kd : Nat} {u v' : Value} {ts : List Sv.Term} (hb4 : VAt b s k bd w4) (hC4 : C3 166 C (.bool nt) (.int .i64 kd) u w4) (hR4 : C3 166 w.heap.size (.bool false) (.int .i64 0) (.slice none 0 0) w4) (hts4 : VTsAt w.heap.size v' ts w4) (hg4 : w.grownBy w4 (some b)) (hR : w.heap.size < C) (hbR : b < w.heap.size) :
    VAt b s k bd (w4.setCell ⟨C, 2, none⟩ v') ∧ C3 166 C (.bool nt) (.int .i64 kd) v' (w4.setCell ⟨C, 2, none⟩ v') ∧ C3 166 w.heap.size (.bool false) (.int .i64 0) (.slice none 0 0) (w4.setCell ⟨C, 2, none⟩ v') ∧ VTsAt w.heap.size v' ts (w4.setCell ⟨C, 2, none⟩ v') ∧ w.grownBy (w4.setCell ⟨C, 2, none⟩ v') (some b) := by
  have kC := gr_set w4 C 2 v'
  exact ⟨hb4.kept kC (by simp; omega), hC4.put2 v', hR4.kept kC (by simp; omega), hts4.row kC (RowOk.one hC4 (Nat.le_of_lt hR)) (by decide), gr_own hg4 kC (Nat.le_of_lt hR)⟩
theorem vterm_fin2 {w w4 : World} {b : Nat} {s : ByteArray} {k : Nat} {bd nt : Bool} {C kd : Nat} {v' : Value} {ts : List Sv.Term} (j : Nat) (hb4 : VAt b s k bd w4) (hC4 : C3 166 C (.bool nt) (.int .i64 kd) v' w4) (hR4 : C3 166 w.heap.size (.bool false) (.int .i64 0) (.slice none 0 0) w4) (hts4 : VTsAt w.heap.size v' ts w4) (hg4 : w.grownBy w4 (some b)) (hR : w.heap.size < C) (hbR : b < w.heap.size) :
    VAt b s j bd (w4.setCell ⟨b, 1, none⟩ (.int .i64 j)) ∧ C3 166 C (.bool nt) (.int .i64 kd) v' (w4.setCell ⟨b, 1, none⟩ (.int .i64 j)) ∧ C3 166 w.heap.size (.bool false) (.int .i64 0) (.slice none 0 0) (w4.setCell ⟨b, 1, none⟩ (.int .i64 j)) ∧ VTsAt w.heap.size v' ts (w4.setCell ⟨b, 1, none⟩ (.int .i64 j)) ∧ w.grownBy (w4.setCell ⟨b, 1, none⟩ (.int .i64 j)) (some b) := by
  have kC := gr_set w4 b 1 (.int .i64 j)
  exact ⟨hb4.set1 j, hC4.kept kC (by simp; omega), hR4.kept kC (by simp; omega), hts4.row kC hb4.rowOk (by decide), gr_trans hg4 kC⟩
theorem vterm_own {w w4 : World} {base : Nat} {v' : Value} {acc : List Sv.Term} {t : Sv.Term} (_hg : w.grownBy w4 none ∨ True) (h : w4.ownsRow base 169 3 v' (acc.length + 1) (acc.flatMap vtcells ++ vtcells t)) : VTsAt base v' (acc ++ [t]) w4 := by
  unfold VTsAt
  rw [List.length_append, List.flatMap_append]
  simpa using h
theorem Sv.nd_last (n : Nat) (l : List UInt8) (v i : Nat) : (Sv.ndF n l v i).2 = i ∨ Sv.digB (Sv.pk l ((Sv.ndF n l v i).2 - 1)) = true := by
  induction n generalizing v i with
  | zero => exact .inl rfl
  | succ n ih =>
    rw [Sv.ndF_step]
    split
    · rename_i hc
      rcases ih (v * 10 + ((Sv.pk l i).toNat - 48)) (i + 1) with h | h
      · exact .inr (by rw [h]; exact hc)
      · exact .inr h
    · exact .inl rfl
theorem Sv.number_shape (l : List UInt8) (i : Nat) (t : Sv.Term) (j : Nat) (h : Sv.number l i = .inr (t, j)) : t = ⟨2, 0, t.value⟩ ∧ Sv.digB (Sv.pk l (j - 1)) = true := by
  unfold Sv.number at h
  cases hm : Sv.pk l i == 45
  · rw [hm] at h
    simp only [Bool.false_eq_true, if_false] at h
    by_cases hne : (Sv.ndF 9 l 0 i).2 = i
    · rw [if_pos hne] at h; cases h
    · rw [if_neg hne] at h
      simp only [Sum.inr.injEq, Prod.mk.injEq] at h
      obtain ⟨rfl, rfl⟩ := h
      refine ⟨rfl, ?_⟩
      rcases Sv.nd_last 9 l 0 i with h | h
      · exact absurd h hne
      · exact h
  · rw [hm] at h
    simp only [if_true] at h
    by_cases hne : (Sv.ndF 9 l 0 (i + 1)).2 = i + 1
    · rw [if_pos hne] at h; cases h
    · rw [if_neg hne] at h
      simp only [Sum.inr.injEq, Prod.mk.injEq] at h
      obtain ⟨rfl, rfl⟩ := h
      refine ⟨rfl, ?_⟩
      rcases Sv.nd_last 9 l 0 (i + 1) with h | h
      · exact absurd h hne
      · exact h
theorem Sv.behind_next (l : List UInt8) (k : Nat) (v : Bool) (h : Sv.digB (Sv.pk l k) = v) : Sv.behind l (k + 1) = v := by
  unfold Sv.behind
  rw [show k + 1 - 1 = k from rfl, h]
  simp
theorem vnumber_any (b : Nat) (s : ByteArray) (i : Nat) (w : World) (hi : i ≤ s.size) (hs : s.size ≤ 400) (hc : (Sv.pk s.data.toList i == 45) = false → Sv.digB (Sv.pk s.data.toList i) = true) (hb : VAt b s i false w) :
    Calls Tryz.prog 178 #[.pointer (some ⟨b, 0, none⟩)] w fun e w' => ∃ (z : Int) (j : Nat) (bd : Bool), e = .returned (.int .i64 z) ∧ VAt b s j bd w' ∧ w.grownBy w' (some b) ∧ Hid ((bd = true ∧ Sv.number s.data.toList i = .inl j) ∨ (bd = false ∧ Sv.number s.data.toList i = .inr (⟨2, 0, z⟩, j))) := by
  refine (vnumber_w b s i w hi hs hc hb).mono ?_
  intro e w' hp
  cases hr : Sv.number s.data.toList i with
  | inl k =>
    rw [hr] at hp
    obtain ⟨z, rfl, h1, h2⟩ := hp
    exact ⟨z, k, true, rfl, h1, h2, .inl ⟨rfl, rfl⟩⟩
  | inr q =>
    obtain ⟨t, j⟩ := q
    rw [hr] at hp
    obtain ⟨rfl, h1, h2⟩ := hp
    have h3 := (Sv.number_shape _ _ _ _ hr).1
    exact ⟨_, j, false, rfl, h1, h2, .inr ⟨rfl, by rw [← h3]⟩⟩

/-- What the document's reader of a condition comes to. -/
def VCPost (b : Nat) (s : ByteArray) (nt : Bool) (kd : Nat) (w : World) (r : Nat ⊕ (List Sv.Term × Nat)) (e : Ending) (w' : World) : Prop :=
  match r with
  | .inl k => ∃ (q : Int) (ao : Option Addr) (n cap : Nat), e = .returned (.agg #[.bool nt, .int .i64 q, .slice ao n cap]) ∧ VAt b s k true w' ∧ w.grownBy w' (some b)
  | .inr (ts, j) => ∃ u, e = .returned (.agg #[.bool nt, .int .i64 kd, u]) ∧ VTsAt w.heap.size u ts w' ∧ VAt b s j false w' ∧ w.grownBy w' (some b)

def badOf (b : Nat) (w : World) : Bool := match w.cell? ⟨b, 2, none⟩ with | some (.bool q) => q | _ => false
theorem VAt.bad {b : Nat} {s : ByteArray} {i : Nat} {v : Bool} {w : World} (h : VAt b s i v w) : badOf b w = v := by
  unfold badOf; rw [h.c2]
def msOf (b n : Nat) (w : World) : Nat := if badOf b w = true then 0 else n - atOf b w + 1

theorem VAt.ms {b : Nat} {s : ByteArray} {i : Nat} {v : Bool} {w : World} (h : VAt b s i v w) (n : Nat) : msOf b n w = if v = true then 0 else n - i + 1 := by
  unfold msOf; rw [h.bad, h.at]

/-- What holds at the head of the loop. -/
def VCLoop (b : Nat) (s : ByteArray) (nt : Bool) (kd : Nat) (R C : Nat) (w : World) (r : Nat ⊕ (List Sv.Term × Nat)) (u7 : Value) (w' : World) : Prop :=
  ∃ (p : Nat) (u : Value) (bad : Bool), VAt b s p bad w' ∧ p ≤ s.size ∧ C3 166 C (.bool nt) (.int .i64 kd) u w' ∧ C3 166 R (.bool false) (.int .i64 0) (.slice none 0 0) w' ∧ w.grownBy w' (some b) ∧
    ((bad = true ∧ r = .inl p ∧ ∃ ao n cap, u = .slice ao n cap) ∨ (bad = false ∧ ∃ (n : Nat) (acc : List Sv.Term), s.size < p + n ∧ acc.length ≤ p ∧ 0 < p ∧ u7 = .bool (Sv.behind s.data.toList p) ∧ VTsAt w.heap.size u acc w' ∧ Sv.tmF n s.data.toList acc p = r))

set_option maxRecDepth 100000 in
set_option maxHeartbeats 1000000 in
theorem vcond_yes (b : Nat) (s : ByteArray) (i : Nat) (nt : Bool) (w : World) (hi : i ≤ s.size) (hs : s.size ≤ 400) (hb : VAt b s i false w) (h : (Sv.pk s.data.toList i == 40) = true) (h2 : Sv.digB (Sv.pk s.data.toList (Sv.sk s.data.toList (i + 1))) = true) (r : Nat ⊕ (List Sv.Term × Nat)) (hR : Sv.terms s.data.toList (Sv.sk s.data.toList (i + 1) + 1) = r) (kd : Nat) (hkd : (Sv.pk s.data.toList (Sv.sk s.data.toList (i + 1))).toNat - 48 = kd) :
    Calls Tryz.prog 151 #[.pointer (some ⟨b, 0, none⟩), .bool nt] w fun e w' => VCPost b s nt kd w r e w' := by
  obtain ⟨i0, hinf, hz0, hz1, hz2⟩ := info_parts Tryz.infoVTerm
  obtain ⟨k, hk⟩ : ∃ k, Sv.sk s.data.toList (i + 1) = k := ⟨_, rfl⟩
  rw [hk] at h2 hR hkd
  have HK := hide hk
  clear hk
  have HR := hide hR
  clear hR
  have hp0 := fun o => hb.kept (World.grownBy_alloc w o none) (by simp)
  have hN0 : C3 166 w.heap.size (.bool false) (.int .i64 0) (.slice none 0 0) (w.alloc (.cells #[.bool false, .int .i64 0, .slice none 0 0] 166)) := heap_alloc_new _ _
  have hlt := hb.lt
  have hp1 := Sv.byte_pos _ _ 40 (by decide) h
  rw [size_list] at hp1
  have hp2 := Sv.dig_pos _ _ h2
  rw [size_list] at hp2
  have hrng := u8_sub _ h2
  go_enter Tryz.func151, Tryz.ntmps151
  go_wp2_with fail
  refine (vone_yes b s i 40 _ rfl _ hi hs h (hp0 _)).mono ?_
  rintro e w1 ⟨rfl, hb1, hg1⟩
  go_wp2_with fail
  refine (vblanks_w b s (i + 1) w1 hp1 hs hb1).mono ?_
  rintro e w2 ⟨rfl, hb2, hg2⟩
  have hN2 := (hN0.kept hg1 (by simp; omega)).kept hg2 (by simp; omega)
  have hg02 := gr_trans (gr_trans (World.grownBy_alloc w _ (some b)) hg1) hg2
  clear hp0 hb1 hg1 hg2 hN0
  rw [unhide HK] at hb2
  have hgA := World.grownBy_alloc w2 (.cells #[.bool nt, .int .i64 0, .slice none 0 0] 166) none
  have hCB : C3 166 w2.heap.size (.bool nt) (.int .i64 0) (.slice none 0 0) (w2.alloc (.cells #[.bool nt, .int .i64 0, .slice none 0 0] 166)) := heap_alloc_new _ _
  have hbA := hb2.kept hgA (by simp)
  have hNA := hN2.kept hgA (by simp)
  have hC1 : w.heap.size < w2.heap.size := hN2.lt
  have hbC : b < w2.heap.size := hb2.lt
  have hg03 := gr_trans hg02 (gr_any hgA (some b))
  clear hgA hb2 hN2 hg02
  go_wp2_with fail
  refine (vhere_w b s k _ (by omega) hs hbA).mono ?_
  rintro e w3' ⟨rfl, n, rfl⟩
  generalize w2.alloc (.cells #[.bool nt, .int .i64 0, .slice none 0 0] 166) = w3 at *
  generalize w2.heap.size = C at *
  obtain ⟨d0, d1, d2⟩ := hCB.c
  have z0 := hCB.fz 0
  have z1 := hCB.fz 1
  have z2 := hCB.fz 2
  have hgC := fun n => gr_set (w3.drewN n) C 1 (.int .i64 (((Sv.pk s.data.toList k).toNat : Int) - 48))
  have hbB := fun n => (hbA.drewN n).kept (hgC n) (by simp; omega)
  have c1 := fun n => (hbB n).c1
  have f1 := fun n => (hbB n).fz 1
  obtain ⟨hr1, hr2⟩ := hrng
  go_wp2_with (first | (go_at_call 148; refine (vhere_w b s k _ (by omega) hs (by first | exact hbA | exact hbA.drewN _)).mono ?_; rintro e w3 ⟨rfl, n2, rfl⟩) | (go_at_call 177; refine (vdigit_w _ _).mono ?_; rintro e w3 ⟨rfl, rfl⟩))
  have hkd2 : ((Sv.pk s.data.toList k).toNat : Int) - 48 = (kd : Int) := by omega
  go_loopw [7] (fun x w' => VCLoop b s nt kd w.heap.size C w r x w') (fun _ w' => msOf b s.size w')
  case atStart =>
    have hC2 := (hCB.drewN (n + n2)).put1 (.int .i64 (((Sv.pk s.data.toList k).toNat : Int) - 48))
    have hg4 := gr_own (gr_trans hg03 (gr_drewN w3 (n + n2) _)) (hgC (n + n2)) (Nat.le_of_lt hC1)
    have hN4 := (hNA.drewN (n + n2)).kept (hgC (n + n2)) (by simp; omega)
    have kk := gr_set ((w3.drewN (n + n2)).setCell ⟨C, 1, none⟩ (.int .i64 (((Sv.pk s.data.toList k).toNat : Int) - 48))) b 1 (.int .i64 ((k : Int) + 1))
    rw [hkd2] at hC2 hg4 hN4 kk ⊢
    have hb5 := (hbB (n + n2)).set1 (k + 1)
    rw [hkd2] at hb5
    refine ⟨k + 1, .slice none 0 0, false, hb5, hp2, hC2.kept kk (by simp; omega), hN4.kept kk (by simp; omega), gr_trans hg4 kk, .inr ⟨rfl, s.data.toList.length + 1, [], by simp; omega, Nat.zero_le _, by omega, ?_, World.ownsRow_nil _ _ _ _, unhide HR⟩⟩
    have : Sv.behind s.data.toList (k + 1) = true := by
      unfold Sv.behind
      rw [show k + 1 - 1 = k from rfl, h2]
      simp
    rw [this]
  case round =>
    clear d0 d1 d2 z0 z1 z2 hgC hbB c1 f1 hbA hNA hg03 hCB hr1 hr2 hkd hkd2
    obtain ⟨p, u, bad, hbk, hp, hC, hRr, hg, hcase⟩ := hrel
    have HM : Hid (msOf b s.size wr = if bad = true then 0 else s.size - p + 1) := by
      show msOf b s.size wr = _
      unfold msOf; rw [hbk.bad, hbk.at]
    rcases hcase with ⟨rfl, hr, ao, nn, cap, rfl⟩ | ⟨rfl, m, acc, hm, hacc, hpp, hu7, hts, hnm⟩
    · subst hr
      have c2 := hbk.c2
      obtain ⟨d0, d1, d2⟩ := hC.c
      obtain ⟨q0, q1, q2⟩ := hRr.c
      have z0 := hRr.fz 0
      have z1 := hRr.fz 1
      have z2 := hRr.fz 2
      go_wp2
      have k3 := gr_set3 wr w.heap.size (.bool nt) (.int .i64 kd) (.slice ao nn cap)
      obtain ⟨q0, q1, q2⟩ := (hRr.set3 (.bool nt) (.int .i64 kd) (.slice ao nn cap)).c
      exact bodyPost_ret (v := .agg #[.bool nt, .int .i64 kd, .slice ao nn cap]) (by simp [results, Tryz.results151, go_sem, q0, q1, q2]) rfl ⟨_, _, _, _, rfl, hbk.kept k3 (by simp; omega), gr_own hg k3 (Nat.le_refl _)⟩
    · obtain ⟨m, rfl⟩ : ∃ m', m = m' + 1 := ⟨m - 1, by omega⟩
      rw [Sv.tmF_step] at hnm
      have HN := hide hnm
      clear hnm
      have hle := Sv.sk_le s.data.toList p (by simpa using hp)
      rw [size_list] at hle
      have c1 := hbk.c1
      have c2 := hbk.c2
      obtain ⟨ao, cap, rfl⟩ := hts.slice
      have hq : ∃ q x : Bool, u7 = .bool q ∧ decide (p < Sv.sk s.data.toList p) = x ∧ Hid ((if x = true then false else q) = Sv.behind s.data.toList (Sv.sk s.data.toList p)) := by
        refine ⟨_, _, hu7, rfl, ?_⟩
        by_cases hlt : p < Sv.sk s.data.toList p
        · rw [if_pos (by simp; omega)]
          exact (Sv.behind_sk _ _ hlt).symm
        · rw [if_neg (by simp; omega), show Sv.sk s.data.toList p = p from by omega]
          rfl
      obtain ⟨q, x, rfl, hx, HB⟩ := hq
      clear hu7
      go_wp2_with fail
      refine (vblanks_w b s p _ hp hs (by first | exact hbk | exact hbk.drewN _)).mono ?_
      rintro e w1 ⟨rfl, hb1, hg1⟩
      have hC2 := hC.row hg1 hbk.rowOk (by decide)
      have hR1 := hRr.row hg1 hbk.rowOk (by decide)
      have hts1 := hts.row hg1 hbk.rowOk (by decide)
      have hg01 := gr_trans hg hg1
      clear hC hRr hts hbk hg hg1 c1 c2
      have HN2 := unhide HN
      have HB2 := unhide HB
      clear HN HB
      generalize Sv.sk s.data.toList p = k2 at *
      have HN := hide HN2
      have HB := hide HB2
      clear HN2 HB2
      obtain ⟨hle1, hle2⟩ := hle
      have c1 := hb1.c1
      have f1 := hb1.fz 1
      have f2 := hb1.fz 2
      have c2 := hb1.c2
      obtain ⟨d0, d1, d2⟩ := hC2.c
      obtain ⟨q0, q1, q2⟩ := hR1.c
      have z0 := hR1.fz 0
      have z1 := hR1.fz 1
      have z2 := hR1.fz 2
      have y2 := hC2.fz 2
      have hsz := hg01.size
      cases h41 : Sv.pk s.data.toList k2 == 41
      · have HN1 : Hid ((match Sv.term s.data.toList k2 with
          | .inl k => .inl k
          | .inr (t, j) => Sv.tmF m s.data.toList (acc ++ [t]) j) = r) := by
          have := unhide HN; rw [h41, if_neg (by simp)] at this; exact this
        clear HN
        have e41 := (u8_41 (Sv.pk s.data.toList k2)).trans h41
        clear h41
        have htsA := fun n => hts1.row (gr_drewN w1 n none) (RowOk.none 0 0 _) (by decide)
        cases hl : Sv.letB (Sv.pk s.data.toList k2)
        · cases h95 : Sv.pk s.data.toList k2 == 95
          · have e95 := (u8_95 (Sv.pk s.data.toList k2)).trans h95
            cases h45 : Sv.pk s.data.toList k2 == 45
            · have e45 := (u8_45 (Sv.pk s.data.toList k2)).trans h45
              cases hd : Sv.digB (Sv.pk s.data.toList k2)
              · have HN2 : Hid (Sum.inl k2 = r) := by
                  have := unhide HN1
                  rw [show Sv.term s.data.toList k2 = .inl k2 from by
                    unfold Sv.term
                    rw [h95, if_neg (by simp), hl, if_neg (by simp), h45, hd]
                    rfl] at this
                  exact this
                clear HN1
                cases x
                all_goals
                  go_wp2_with (first | (go_at_call 148; refine (vhere_w b s k2 _ hle2 hs hb1).mono ?_; rintro e w3 ⟨rfl, n4, rfl⟩) | (go_at_call 176; refine (vletter_w _ _).mono ?_; rintro e w3 ⟨rfl, rfl⟩) | (go_at_call 177; refine (vdigit_w _ _).mono ?_; rintro e w3 ⟨rfl, rfl⟩))
                  have hb5 := (hb1.drewN n4).set2 true
                  have kk := gr_set (w1.drewN n4) b 2 (.bool true)
                  have HM6 := hide (hb5.ms s.size)
                  go_roundw
                  case rel => exact ⟨k2, _, true, hb5, hle2, (hC2.drewN n4).kept kk (by simp; omega), (hR1.drewN n4).kept kk (by simp; omega), gr_trans (gr_trans hg01 (gr_drewN w1 n4 _)) kk, .inl ⟨rfl, (unhide HN2).symm, _, _, _, rfl⟩⟩
                  case measure => refine Nat.lt_of_le_of_lt (Nat.le_of_eq (unhide HM6)) ?_; rw [HM.out]; simp
              · cases hbh : Sv.behind s.data.toList k2
                · have HT : Sv.term s.data.toList k2 = Sv.number s.data.toList k2 := by
                    unfold Sv.term
                    rw [h95, if_neg (by simp), hl, if_neg (by simp), h45, hd, hbh]
                    rfl
                  have hc : (Sv.pk s.data.toList k2 == 45) = false → Sv.digB (Sv.pk s.data.toList k2) = true := fun _ => hd
                  cases x
                  · obtain rfl : q = false := by have := unhide HB; rw [hbh] at this; exact this
                    go_wp2_with (first | (go_at_call 148; refine (vhere_w b s k2 _ hle2 hs hb1).mono ?_; rintro e w3 ⟨rfl, n4, rfl⟩) | (go_at_call 176; refine (vletter_w _ _).mono ?_; rintro e w3 ⟨rfl, rfl⟩) | (go_at_call 177; refine (vdigit_w _ _).mono ?_; rintro e w3 ⟨rfl, rfl⟩))
                    refine (vnumber_any b s k2 _ hle2 hs hc (hb1.drewN n4)).mono ?_
                    rintro e w2 ⟨z, j, bd, rfl, hb2, hg2, HV⟩
                    have hsz2 : w1.heap.size ≤ w2.heap.size := hg2.size
                    have hC7 := (hC2.drewN n4).row hg2 (hb1.drewN n4).rowOk (by decide)
                    have b2 := hC7.c.2.2
                    have by2 := hC7.fz 2
                    go_wp2_with (at_builtin; refine wpList_append_own _ rfl _ _ 164 rfl w.heap.size 169 i0 (.agg #[.int .u8 0, .int .i64 0, .bool false]) 3 24 Tryz.underlying164 hinf hz0 hz1 hz2 rfl (by decide) _ acc.length (acc.flatMap vtcells) rfl (((htsA n4).row hg2 (hb1.drewN n4).rowOk (by decide)).alloc _) ⟨w2.heap.size, 0, none⟩ 1 1 (vtcells ⟨2, 0, z⟩) rfl rfl ?c1 ?c2 ?c3 ?c4 ?c5 ?_)
                    case c1 =>
                      intro jj u hu
                      match jj, hu with
                      | 0, hu => simp [vtcells] at hu; subst hu; simp [Addr.add]
                      | 1, hu => simp [vtcells] at hu; subst hu; simp [Addr.add]
                      | 2, hu => simp [vtcells] at hu; subst hu; simp [Addr.add]
                      | n + 3, hu => simp [vtcells] at hu
                    case c2 =>
                      intro u hu
                      simp [vtcells] at hu
                      rcases hu with rfl | rfl | rfl <;> rfl
                    case c3 => unfold maxLen; omega
                    case c4 => omega
                    case c5 => simp; omega
                    intro v' w4 hown hgrow _
                    have hdr := hb1.drewN n4
                    have hgA := World.grownBy_alloc w2 (.cells #[.int .u8 0, .int .i64 z, .bool false] 169) none
                    have htsB := (htsA n4).row hg2 hdr.rowOk (by decide)
                    have hrow := RowOk.of (htsB.alloc (.cells #[.int .u8 0, .int .i64 z, .bool false] 169))
                    have hb4 := (hb2.kept hgA (by simp)).row hgrow hrow (by decide)
                    have hC4 := (((hC2.drewN n4).row hg2 hdr.rowOk (by decide)).kept hgA (by simp)).row hgrow hrow (by decide)
                    have hR4 := (((hR1.drewN n4).row hg2 hdr.rowOk (by decide)).kept hgA (by simp)).row hgrow hrow (by decide)
                    have hg4 := gr_owns (gr_trans (gr_trans (gr_trans hg01 (gr_drewN w1 n4 _)) hg2) (gr_any hgA (some b))) hgrow hrow
                    have hts4 : VTsAt w.heap.size v' (acc ++ [⟨2, 0, z⟩]) w4 := vterm_own (w := w4) (.inr trivial) hown
                    obtain ⟨ao4, cap4, hv⟩ := hts4.slice
                    rw [List.length_append, List.length_singleton] at hv
                    subst hv
                    obtain ⟨hb5, hC5, hR5, hts5, hg5⟩ := vterm_fin hb4 hC4 hR4 hts4 hg4 hC1 hlt
                    clear c1 f1 f2 c2 d0 d1 d2 q0 q1 q2 z0 z1 z2 y2 hown hgrow hgA hrow
                    have a2 := hC4.c.2.2
                    have ay := hC4.fz 2
                    have HM6 := hide (hb5.ms s.size)
                    go_wp2
                    go_roundw
                    case rel =>
                      rcases unhide HV with ⟨rfl, hv1⟩ | ⟨rfl, hv1⟩
                      · have h9 := unhide HN1
                        rw [HT, hv1] at h9
                        have hok := Sv.number_ok s.data.toList k2 (by simpa using hle2)
                        rw [hv1] at hok
                        have hok2 : j ≤ s.size := by have h8 : j ≤ s.data.toList.length := hok; rwa [size_list] at h8
                        exact ⟨j, _, true, hb5, hok2, hC5, hR5, hg5, .inl ⟨rfl, h9.symm, _, _, _, rfl⟩⟩
                      · have h9 := unhide HN1
                        rw [HT, hv1] at h9
                        have hok := Sv.number_ok s.data.toList k2 (by simpa using hle2)
                        rw [hv1] at hok
                        obtain ⟨hok1, hok2⟩ : k2 < j ∧ j ≤ s.data.toList.length := hok
                        rw [size_list] at hok2
                        have hsh := (Sv.number_shape _ _ _ _ hv1).2
                        exact ⟨j, _, false, hb5, hok2, hC5, hR5, hg5, .inr ⟨rfl, m, acc ++ [⟨2, 0, z⟩], by omega, by simp; omega, by omega, by rw [show Sv.behind s.data.toList j = true from by unfold Sv.behind; rw [hsh]; simp; omega], hts5, h9⟩⟩
                    case measure =>
                      refine Nat.lt_of_le_of_lt (Nat.le_of_eq (unhide HM6)) ?_
                      rw [HM.out]
                      rcases unhide HV with ⟨rfl, hv1⟩ | ⟨rfl, hv1⟩
                      · simp
                      · have hok := Sv.number_ok s.data.toList k2 (by simpa using hle2)
                        rw [hv1] at hok
                        obtain ⟨hok1, hok2⟩ : k2 < j ∧ j ≤ s.data.toList.length := hok
                        rw [size_list] at hok2
                        simp; omega
                  · skip
                    go_wp2_with (first | (go_at_call 148; refine (vhere_w b s k2 _ hle2 hs hb1).mono ?_; rintro e w3 ⟨rfl, n4, rfl⟩) | (go_at_call 176; refine (vletter_w _ _).mono ?_; rintro e w3 ⟨rfl, rfl⟩) | (go_at_call 177; refine (vdigit_w _ _).mono ?_; rintro e w3 ⟨rfl, rfl⟩))
                    refine (vnumber_any b s k2 _ hle2 hs hc (hb1.drewN n4)).mono ?_
                    rintro e w2 ⟨z, j, bd, rfl, hb2, hg2, HV⟩
                    have hsz2 : w1.heap.size ≤ w2.heap.size := hg2.size
                    have hC7 := (hC2.drewN n4).row hg2 (hb1.drewN n4).rowOk (by decide)
                    have b2 := hC7.c.2.2
                    have by2 := hC7.fz 2
                    go_wp2_with (at_builtin; refine wpList_append_own _ rfl _ _ 164 rfl w.heap.size 169 i0 (.agg #[.int .u8 0, .int .i64 0, .bool false]) 3 24 Tryz.underlying164 hinf hz0 hz1 hz2 rfl (by decide) _ acc.length (acc.flatMap vtcells) rfl (((htsA n4).row hg2 (hb1.drewN n4).rowOk (by decide)).alloc _) ⟨w2.heap.size, 0, none⟩ 1 1 (vtcells ⟨2, 0, z⟩) rfl rfl ?c1 ?c2 ?c3 ?c4 ?c5 ?_)
                    case c1 =>
                      intro jj u hu
                      match jj, hu with
                      | 0, hu => simp [vtcells] at hu; subst hu; simp [Addr.add]
                      | 1, hu => simp [vtcells] at hu; subst hu; simp [Addr.add]
                      | 2, hu => simp [vtcells] at hu; subst hu; simp [Addr.add]
                      | n + 3, hu => simp [vtcells] at hu
                    case c2 =>
                      intro u hu
                      simp [vtcells] at hu
                      rcases hu with rfl | rfl | rfl <;> rfl
                    case c3 => unfold maxLen; omega
                    case c4 => omega
                    case c5 => simp; omega
                    intro v' w4 hown hgrow _
                    have hdr := hb1.drewN n4
                    have hgA := World.grownBy_alloc w2 (.cells #[.int .u8 0, .int .i64 z, .bool false] 169) none
                    have htsB := (htsA n4).row hg2 hdr.rowOk (by decide)
                    have hrow := RowOk.of (htsB.alloc (.cells #[.int .u8 0, .int .i64 z, .bool false] 169))
                    have hb4 := (hb2.kept hgA (by simp)).row hgrow hrow (by decide)
                    have hC4 := (((hC2.drewN n4).row hg2 hdr.rowOk (by decide)).kept hgA (by simp)).row hgrow hrow (by decide)
                    have hR4 := (((hR1.drewN n4).row hg2 hdr.rowOk (by decide)).kept hgA (by simp)).row hgrow hrow (by decide)
                    have hg4 := gr_owns (gr_trans (gr_trans (gr_trans hg01 (gr_drewN w1 n4 _)) hg2) (gr_any hgA (some b))) hgrow hrow
                    have hts4 : VTsAt w.heap.size v' (acc ++ [⟨2, 0, z⟩]) w4 := vterm_own (w := w4) (.inr trivial) hown
                    obtain ⟨ao4, cap4, hv⟩ := hts4.slice
                    rw [List.length_append, List.length_singleton] at hv
                    subst hv
                    obtain ⟨hb5, hC5, hR5, hts5, hg5⟩ := vterm_fin hb4 hC4 hR4 hts4 hg4 hC1 hlt
                    clear c1 f1 f2 c2 d0 d1 d2 q0 q1 q2 z0 z1 z2 y2 hown hgrow hgA hrow
                    have a2 := hC4.c.2.2
                    have ay := hC4.fz 2
                    have HM6 := hide (hb5.ms s.size)
                    go_wp2
                    go_roundw
                    case rel =>
                      rcases unhide HV with ⟨rfl, hv1⟩ | ⟨rfl, hv1⟩
                      · have h9 := unhide HN1
                        rw [HT, hv1] at h9
                        have hok := Sv.number_ok s.data.toList k2 (by simpa using hle2)
                        rw [hv1] at hok
                        have hok2 : j ≤ s.size := by have h8 : j ≤ s.data.toList.length := hok; rwa [size_list] at h8
                        exact ⟨j, _, true, hb5, hok2, hC5, hR5, hg5, .inl ⟨rfl, h9.symm, _, _, _, rfl⟩⟩
                      · have h9 := unhide HN1
                        rw [HT, hv1] at h9
                        have hok := Sv.number_ok s.data.toList k2 (by simpa using hle2)
                        rw [hv1] at hok
                        obtain ⟨hok1, hok2⟩ : k2 < j ∧ j ≤ s.data.toList.length := hok
                        rw [size_list] at hok2
                        have hsh := (Sv.number_shape _ _ _ _ hv1).2
                        exact ⟨j, _, false, hb5, hok2, hC5, hR5, hg5, .inr ⟨rfl, m, acc ++ [⟨2, 0, z⟩], by omega, by simp; omega, by omega, by rw [show Sv.behind s.data.toList j = true from by unfold Sv.behind; rw [hsh]; simp; omega], hts5, h9⟩⟩
                    case measure =>
                      refine Nat.lt_of_le_of_lt (Nat.le_of_eq (unhide HM6)) ?_
                      rw [HM.out]
                      rcases unhide HV with ⟨rfl, hv1⟩ | ⟨rfl, hv1⟩
                      · simp
                      · have hok := Sv.number_ok s.data.toList k2 (by simpa using hle2)
                        rw [hv1] at hok
                        obtain ⟨hok1, hok2⟩ : k2 < j ∧ j ≤ s.data.toList.length := hok
                        rw [size_list] at hok2
                        simp; omega
                · have HN2 : Hid (Sum.inl k2 = r) := by
                    have := unhide HN1
                    rw [show Sv.term s.data.toList k2 = .inl k2 from by
                      unfold Sv.term
                      rw [h95, if_neg (by simp), hl, if_neg (by simp), h45, hd, hbh]
                      rfl] at this
                    exact this
                  clear HN1
                  cases x
                  · obtain rfl : q = true := by have := unhide HB; rw [hbh] at this; exact this
                    go_wp2_with (first | (go_at_call 148; refine (vhere_w b s k2 _ hle2 hs hb1).mono ?_; rintro e w3 ⟨rfl, n4, rfl⟩) | (go_at_call 176; refine (vletter_w _ _).mono ?_; rintro e w3 ⟨rfl, rfl⟩) | (go_at_call 177; refine (vdigit_w _ _).mono ?_; rintro e w3 ⟨rfl, rfl⟩))
                    have hb5 := (hb1.drewN n4).set2 true
                    have kk := gr_set (w1.drewN n4) b 2 (.bool true)
                    have HM6 := hide (hb5.ms s.size)
                    go_roundw
                    case rel => exact ⟨k2, _, true, hb5, hle2, (hC2.drewN n4).kept kk (by simp; omega), (hR1.drewN n4).kept kk (by simp; omega), gr_trans (gr_trans hg01 (gr_drewN w1 n4 _)) kk, .inl ⟨rfl, (unhide HN2).symm, _, _, _, rfl⟩⟩
                    case measure => refine Nat.lt_of_le_of_lt (Nat.le_of_eq (unhide HM6)) ?_; rw [HM.out]; simp
                  · exfalso; have := unhide HB; rw [hbh] at this; cases this
            · have HT : Sv.term s.data.toList k2 = Sv.number s.data.toList k2 := by
                unfold Sv.term
                rw [h95, if_neg (by simp), hl, if_neg (by simp), h45]
                rfl
              have e45 := (u8_45 (Sv.pk s.data.toList k2)).trans h45
              have hc : (Sv.pk s.data.toList k2 == 45) = false → Sv.digB (Sv.pk s.data.toList k2) = true := fun h => by rw [h45] at h; cases h
              cases x
              all_goals
                skip
                go_wp2_with (first | (go_at_call 148; refine (vhere_w b s k2 _ hle2 hs hb1).mono ?_; rintro e w3 ⟨rfl, n4, rfl⟩) | (go_at_call 176; refine (vletter_w _ _).mono ?_; rintro e w3 ⟨rfl, rfl⟩) | (go_at_call 177; refine (vdigit_w _ _).mono ?_; rintro e w3 ⟨rfl, rfl⟩))
                refine (vnumber_any b s k2 _ hle2 hs hc (hb1.drewN n4)).mono ?_
                rintro e w2 ⟨z, j, bd, rfl, hb2, hg2, HV⟩
                have hsz2 : w1.heap.size ≤ w2.heap.size := hg2.size
                have hC7 := (hC2.drewN n4).row hg2 (hb1.drewN n4).rowOk (by decide)
                have b2 := hC7.c.2.2
                have by2 := hC7.fz 2
                go_wp2_with (at_builtin; refine wpList_append_own _ rfl _ _ 164 rfl w.heap.size 169 i0 (.agg #[.int .u8 0, .int .i64 0, .bool false]) 3 24 Tryz.underlying164 hinf hz0 hz1 hz2 rfl (by decide) _ acc.length (acc.flatMap vtcells) rfl (((htsA n4).row hg2 (hb1.drewN n4).rowOk (by decide)).alloc _) ⟨w2.heap.size, 0, none⟩ 1 1 (vtcells ⟨2, 0, z⟩) rfl rfl ?c1 ?c2 ?c3 ?c4 ?c5 ?_)
                case c1 =>
                  intro jj u hu
                  match jj, hu with
                  | 0, hu => simp [vtcells] at hu; subst hu; simp [Addr.add]
                  | 1, hu => simp [vtcells] at hu; subst hu; simp [Addr.add]
                  | 2, hu => simp [vtcells] at hu; subst hu; simp [Addr.add]
                  | n + 3, hu => simp [vtcells] at hu
                case c2 =>
                  intro u hu
                  simp [vtcells] at hu
                  rcases hu with rfl | rfl | rfl <;> rfl
                case c3 => unfold maxLen; omega
                case c4 => omega
                case c5 => simp; omega
                intro v' w4 hown hgrow _
                have hdr := hb1.drewN n4
                have hgA := World.grownBy_alloc w2 (.cells #[.int .u8 0, .int .i64 z, .bool false] 169) none
                have htsB := (htsA n4).row hg2 hdr.rowOk (by decide)
                have hrow := RowOk.of (htsB.alloc (.cells #[.int .u8 0, .int .i64 z, .bool false] 169))
                have hb4 := (hb2.kept hgA (by simp)).row hgrow hrow (by decide)
                have hC4 := (((hC2.drewN n4).row hg2 hdr.rowOk (by decide)).kept hgA (by simp)).row hgrow hrow (by decide)
                have hR4 := (((hR1.drewN n4).row hg2 hdr.rowOk (by decide)).kept hgA (by simp)).row hgrow hrow (by decide)
                have hg4 := gr_owns (gr_trans (gr_trans (gr_trans hg01 (gr_drewN w1 n4 _)) hg2) (gr_any hgA (some b))) hgrow hrow
                have hts4 : VTsAt w.heap.size v' (acc ++ [⟨2, 0, z⟩]) w4 := vterm_own (w := w4) (.inr trivial) hown
                obtain ⟨ao4, cap4, hv⟩ := hts4.slice
                rw [List.length_append, List.length_singleton] at hv
                subst hv
                obtain ⟨hb5, hC5, hR5, hts5, hg5⟩ := vterm_fin hb4 hC4 hR4 hts4 hg4 hC1 hlt
                clear c1 f1 f2 c2 d0 d1 d2 q0 q1 q2 z0 z1 z2 y2 hown hgrow hgA hrow
                have a2 := hC4.c.2.2
                have ay := hC4.fz 2
                have HM6 := hide (hb5.ms s.size)
                go_wp2
                go_roundw
                case rel =>
                  rcases unhide HV with ⟨rfl, hv1⟩ | ⟨rfl, hv1⟩
                  · have h9 := unhide HN1
                    rw [HT, hv1] at h9
                    have hok := Sv.number_ok s.data.toList k2 (by simpa using hle2)
                    rw [hv1] at hok
                    have hok2 : j ≤ s.size := by have h8 : j ≤ s.data.toList.length := hok; rwa [size_list] at h8
                    exact ⟨j, _, true, hb5, hok2, hC5, hR5, hg5, .inl ⟨rfl, h9.symm, _, _, _, rfl⟩⟩
                  · have h9 := unhide HN1
                    rw [HT, hv1] at h9
                    have hok := Sv.number_ok s.data.toList k2 (by simpa using hle2)
                    rw [hv1] at hok
                    obtain ⟨hok1, hok2⟩ : k2 < j ∧ j ≤ s.data.toList.length := hok
                    rw [size_list] at hok2
                    have hsh := (Sv.number_shape _ _ _ _ hv1).2
                    exact ⟨j, _, false, hb5, hok2, hC5, hR5, hg5, .inr ⟨rfl, m, acc ++ [⟨2, 0, z⟩], by omega, by simp; omega, by omega, by rw [show Sv.behind s.data.toList j = true from by unfold Sv.behind; rw [hsh]; simp; omega], hts5, h9⟩⟩
                case measure =>
                  refine Nat.lt_of_le_of_lt (Nat.le_of_eq (unhide HM6)) ?_
                  rw [HM.out]
                  rcases unhide HV with ⟨rfl, hv1⟩ | ⟨rfl, hv1⟩
                  · simp
                  · have hok := Sv.number_ok s.data.toList k2 (by simpa using hle2)
                    rw [hv1] at hok
                    obtain ⟨hok1, hok2⟩ : k2 < j ∧ j ≤ s.data.toList.length := hok
                    rw [size_list] at hok2
                    simp; omega
          · have HN2 : Hid (Sv.tmF m s.data.toList (acc ++ [⟨0, 0, 0⟩]) (k2 + 1) = r) := by
              have := unhide HN1
              unfold Sv.term at this
              rw [h95, if_pos rfl] at this
              exact this
            clear HN1
            have e95 := (u8_95 (Sv.pk s.data.toList k2)).trans h95
            have hdg : Sv.digB (Sv.pk s.data.toList k2) = false := by
              rw [show Sv.pk s.data.toList k2 = 95 from by simpa using h95]; rfl
            have hk2 := Sv.byte_pos _ _ 95 (by decide) h95
            rw [size_list] at hk2
            cases x
            all_goals
              go_wp2_with (first | (go_at_call 148; refine (vhere_w b s k2 _ hle2 hs hb1).mono ?_; rintro e w3 ⟨rfl, n4, rfl⟩) | (go_at_call 176; refine (vletter_w _ _).mono ?_; rintro e w3 ⟨rfl, rfl⟩) | (go_at_call 177; refine (vdigit_w _ _).mono ?_; rintro e w3 ⟨rfl, rfl⟩) | (at_builtin; refine wpList_append_own _ rfl _ _ 164 rfl w.heap.size 169 i0 (.agg #[.int .u8 0, .int .i64 0, .bool false]) 3 24 Tryz.underlying164 hinf hz0 hz1 hz2 rfl (by decide) _ acc.length (acc.flatMap vtcells) rfl ((htsA n4).alloc _) ⟨w1.heap.size, 0, none⟩ 1 1 (vtcells ⟨0, 0, 0⟩) rfl rfl ?c1 ?c2 ?c3 ?c4 ?c5 ?_))
              case c1 =>
                intro jj u hu
                match jj, hu with
                | 0, hu => simp [vtcells] at hu; subst hu; exact (cell_newD w1 n4 _ _ 0).trans rfl
                | 1, hu => simp [vtcells] at hu; subst hu; exact (cell_newD w1 n4 _ _ 1).trans rfl
                | 2, hu => simp [vtcells] at hu; subst hu; exact (cell_newD w1 n4 _ _ 2).trans rfl
                | n + 3, hu => simp [vtcells] at hu
              case c2 =>
                intro u hu
                simp [vtcells] at hu
                rcases hu with rfl | rfl | rfl <;> rfl
              case c3 => unfold maxLen; omega
              case c4 => omega
              case c5 => simp; omega
              intro v' w4 hown hgrow _
              have hgA := gr_trans (gr_drewN w1 n4 none) (World.grownBy_alloc (w1.drewN n4) (.cells #[.int .u8 0, .int .i64 0, .bool true] 169) none)
              have hrow := RowOk.of ((htsA n4).alloc (.cells #[.int .u8 0, .int .i64 0, .bool true] 169))
              have hb4 := (hb1.kept hgA (by simp)).row hgrow hrow (by decide)
              have hC4 := (hC2.kept hgA (by simp)).row hgrow hrow (by decide)
              have hR4 := (hR1.kept hgA (by simp)).row hgrow hrow (by decide)
              have hg4 := gr_owns (gr_trans hg01 (gr_any hgA (some b))) hgrow hrow
              have hts4 : VTsAt w.heap.size v' (acc ++ [⟨0, 0, 0⟩]) w4 := vterm_own (w := w4) (.inr trivial) hown
              obtain ⟨ao4, cap4, hv⟩ := hts4.slice
              rw [List.length_append, List.length_singleton] at hv
              subst hv
              obtain ⟨hb5, hC5, hR5, hts5, hg5⟩ := vterm_fin hb4 hC4 hR4 hts4 hg4 hC1 hlt
              clear c1 f1 f2 c2 d0 d1 d2 q0 q1 q2 z0 z1 z2 y2 hown hgrow hgA hrow
              have a2 := hC4.c.2.2
              have ay := hC4.fz 2
              have c1 := hb5.c1
              have f1 := hb5.fz 1
              obtain ⟨hb6, hC6, hR6, hts6, hg6⟩ := vterm_fin2 (k2 + 1) hb5 hC5 hR5 hts5 hg5 hC1 hlt
              have HM6 := hide (hb6.ms s.size)
              go_wp2
              go_roundw
              case rel => exact ⟨k2 + 1, _, false, hb6, by omega, hC6, hR6, hg6, .inr ⟨rfl, m, acc ++ [⟨0, 0, 0⟩], by omega, by simp; omega, by omega, by rw [Sv.behind_next _ _ _ hdg], hts6, unhide HN2⟩⟩
              case measure => refine Nat.lt_of_le_of_lt (Nat.le_of_eq (unhide HM6)) ?_; rw [HM.out]; simp; omega
        · have HN2 : Hid (Sv.tmF m s.data.toList (acc ++ [⟨1, Sv.pk s.data.toList k2, 0⟩]) (k2 + 1) = r) := by
            have := unhide HN1
            unfold Sv.term at this
            rw [Sv.let_ne _ 95 hl (by decide), if_neg (by simp), hl, if_pos rfl] at this
            exact this
          clear HN1
          have hdg := Sv.dig_let _ hl
          have hk2 := Sv.let_pos _ _ hl
          rw [size_list] at hk2
          cases x
          all_goals
            go_wp2_with (first | (go_at_call 148; refine (vhere_w b s k2 _ hle2 hs hb1).mono ?_; rintro e w3 ⟨rfl, n4, rfl⟩) | (go_at_call 176; refine (vletter_w _ _).mono ?_; rintro e w3 ⟨rfl, rfl⟩) | (go_at_call 177; refine (vdigit_w _ _).mono ?_; rintro e w3 ⟨rfl, rfl⟩) | (at_builtin; refine wpList_append_own _ rfl _ _ 164 rfl w.heap.size 169 i0 (.agg #[.int .u8 0, .int .i64 0, .bool false]) 3 24 Tryz.underlying164 hinf hz0 hz1 hz2 rfl (by decide) _ acc.length (acc.flatMap vtcells) rfl ((htsA n4).alloc _) ⟨w1.heap.size, 0, none⟩ 1 1 (vtcells ⟨1, Sv.pk s.data.toList k2, 0⟩) rfl rfl ?c1 ?c2 ?c3 ?c4 ?c5 ?_))
            case c1 =>
              intro jj u hu
              match jj, hu with
              | 0, hu => simp [vtcells] at hu; subst hu; exact (cell_newD w1 n4 _ _ 0).trans rfl
              | 1, hu => simp [vtcells] at hu; subst hu; exact (cell_newD w1 n4 _ _ 1).trans rfl
              | 2, hu => simp [vtcells] at hu; subst hu; exact (cell_newD w1 n4 _ _ 2).trans rfl
              | n + 3, hu => simp [vtcells] at hu
            case c2 =>
              intro u hu
              simp [vtcells] at hu
              rcases hu with rfl | rfl | rfl <;> rfl
            case c3 => unfold maxLen; omega
            case c4 => omega
            case c5 => simp; omega
            intro v' w4 hown hgrow _
            have hgA := gr_trans (gr_drewN w1 n4 none) (World.grownBy_alloc (w1.drewN n4) (.cells #[.int .u8 (Sv.pk s.data.toList k2).toNat, .int .i64 0, .bool false] 169) none)
            have hrow := RowOk.of ((htsA n4).alloc (.cells #[.int .u8 (Sv.pk s.data.toList k2).toNat, .int .i64 0, .bool false] 169))
            have hb4 := (hb1.kept hgA (by simp)).row hgrow hrow (by decide)
            have hC4 := (hC2.kept hgA (by simp)).row hgrow hrow (by decide)
            have hR4 := (hR1.kept hgA (by simp)).row hgrow hrow (by decide)
            have hg4 := gr_owns (gr_trans hg01 (gr_any hgA (some b))) hgrow hrow
            have hts4 : VTsAt w.heap.size v' (acc ++ [⟨1, Sv.pk s.data.toList k2, 0⟩]) w4 := vterm_own (w := w4) (.inr trivial) hown
            obtain ⟨ao4, cap4, hv⟩ := hts4.slice
            rw [List.length_append, List.length_singleton] at hv
            subst hv
            obtain ⟨hb5, hC5, hR5, hts5, hg5⟩ := vterm_fin hb4 hC4 hR4 hts4 hg4 hC1 hlt
            clear c1 f1 f2 c2 d0 d1 d2 q0 q1 q2 z0 z1 z2 y2 hown hgrow hgA hrow
            have a2 := hC4.c.2.2
            have ay := hC4.fz 2
            have c1 := hb5.c1
            have f1 := hb5.fz 1
            obtain ⟨hb6, hC6, hR6, hts6, hg6⟩ := vterm_fin2 (k2 + 1) hb5 hC5 hR5 hts5 hg5 hC1 hlt
            have HM6 := hide (hb6.ms s.size)
            go_wp2
            go_roundw
            case rel => exact ⟨k2 + 1, _, false, hb6, by omega, hC6, hR6, hg6, .inr ⟨rfl, m, acc ++ [⟨1, Sv.pk s.data.toList k2, 0⟩], by omega, by simp; omega, by omega, by rw [Sv.behind_next _ _ _ hdg], hts6, unhide HN2⟩⟩
            case measure => refine Nat.lt_of_le_of_lt (Nat.le_of_eq (unhide HM6)) ?_; rw [HM.out]; simp; omega
      · have hr : Sum.inr (acc, k2 + 1) = r := by have := unhide HN; rwa [h41, if_pos rfl] at this
        subst hr
        have hk2 := Sv.byte_pos _ _ 41 (by decide) h41
        rw [size_list] at hk2
        have e41 := (u8_41 (Sv.pk s.data.toList k2)).trans h41
        have hb2 := fun n => (hb1.drewN n).set1 (k2 + 1)
        have kk := fun n => gr_set (w1.drewN n) b 1 (.int .i64 ((k2 : Int) + 1))
        have hC3 := fun n => (hC2.drewN n).kept (kk n) (by simp; omega)
        have hR3 := fun n => (hR1.drewN n).kept (kk n) (by simp; omega)
        have e0 := fun n => (hC3 n).c.1
        have e1 := fun n => (hC3 n).c.2.1
        have e2 := fun n => (hC3 n).c.2.2
        have g0 := fun n => (hR3 n).c.1
        have g1 := fun n => (hR3 n).c.2.1
        have g2 := fun n => (hR3 n).c.2.2
        have y0 := fun n => (hR3 n).fz 0
        have y1 := fun n => (hR3 n).fz 1
        have y2 := fun n => (hR3 n).fz 2
        cases x
        all_goals
          go_wp2_with (first | (go_at_call 148; refine (vhere_w b s k2 _ hle2 hs hb1).mono ?_; rintro e w3 ⟨rfl, n4, rfl⟩) | (go_at_call 176; refine (vletter_w _ _).mono ?_; rintro e w3 ⟨rfl, rfl⟩) | (go_at_call 177; refine (vdigit_w _ _).mono ?_; rintro e w3 ⟨rfl, rfl⟩))
          obtain ⟨g0, g1, g2⟩ := ((hR3 n4).set3 (.bool nt) (.int .i64 kd) (.slice ao acc.length cap)).c
          have k3 := gr_set3 ((w1.drewN n4).setCell ⟨b, 1, none⟩ (.int .i64 ((k2 : Int) + 1))) w.heap.size (.bool nt) (.int .i64 kd) (.slice ao acc.length cap)
          exact bodyPost_ret (v := .agg #[.bool nt, .int .i64 kd, .slice ao acc.length cap]) (by simp [results, Tryz.results151, go_sem, g0, g1, g2]) rfl ⟨_, rfl, ((hts1.row (gr_drewN w1 n4 none) (RowOk.none 0 0 _) (by decide)).row (kk n4) (hb1.drewN n4).rowOk (by decide)).row k3 (RowOk.one (hR3 n4) (Nat.le_refl _)) (by decide), (hb2 n4).kept k3 (by simp; omega), gr_own (gr_trans (gr_trans hg01 (gr_drewN w1 n4 _)) (kk n4)) k3 (Nat.le_refl _)⟩

end Go.Proofs.YtolhbeekfjnfmaaGreatDoor

/- The document's reader: conditions, told whole; lists of them. -/
import Derived.Test.YtolhbeekfjnfmaaGreatDoorVc
namespace Go.Proofs.YtolhbeekfjnfmaaGreatDoor
open Go.RowKit

set_option maxRecDepth 100000 in
set_option maxHeartbeats 1000000 in
theorem vcond_no1 (b : Nat) (s : ByteArray) (i : Nat) (nt : Bool) (w : World) (hi : i ≤ s.size) (hs : s.size ≤ 400) (hb : VAt b s i false w) (h : (Sv.pk s.data.toList i == 40) = false) :
    Calls Tryz.prog 151 #[.pointer (some ⟨b, 0, none⟩), .bool nt] w fun e w' => e = .returned (.agg #[.bool nt, .int .i64 0, .slice none 0 0]) ∧ VAt b s i true w' ∧ w.grownBy w' (some b) := by
  have hp0 := fun o => hb.kept (World.grownBy_alloc w o none) (by simp)
  have hN0 : C3 166 w.heap.size (.bool false) (.int .i64 0) (.slice none 0 0) (w.alloc (.cells #[.bool false, .int .i64 0, .slice none 0 0] 166)) := heap_alloc_new _ _
  have hlt := hb.lt
  go_enter Tryz.func151, Tryz.ntmps151
  go_wp2_with fail
  refine (vone_no b s i 40 _ rfl _ hi hs h (hp0 _)).mono ?_
  rintro e w1 ⟨rfl, hb1, hg1⟩
  go_wp2_with fail
  refine (vblanks_bad b s i w1 hb1).mono ?_
  rintro e w2 ⟨rfl, hb2, hg2⟩
  have hN2 := (hN0.kept hg1 (by simp; omega)).kept hg2 (by simp; omega)
  have hg02 := gr_trans (gr_trans (World.grownBy_alloc w _ (some b)) hg1) hg2
  clear hp0 hb1 hg1 hg2 hN0
  have hgA := World.grownBy_alloc w2 (.cells #[.bool nt, .int .i64 0, .slice none 0 0] 166) none
  have hCB : C3 166 w2.heap.size (.bool nt) (.int .i64 0) (.slice none 0 0) (w2.alloc (.cells #[.bool nt, .int .i64 0, .slice none 0 0] 166)) := heap_alloc_new _ _
  have hbA := hb2.kept hgA (by simp)
  have hNA := hN2.kept hgA (by simp)
  have hC1 : w.heap.size < w2.heap.size := hN2.lt
  have hbC : b < w2.heap.size := hb2.lt
  have hg03 := gr_trans hg02 (gr_any hgA (some b))
  clear hgA hb2 hN2 hg02
  go_wp2_with fail
  refine (vhere_bad b s i _ hbA).mono ?_
  rintro e w3' ⟨rfl, n, rfl⟩
  generalize w2.alloc (.cells #[.bool nt, .int .i64 0, .slice none 0 0] 166) = w3 at *
  generalize w2.heap.size = C at *
  have hb4 := (hbA.drewN n).set2 true
  have kk := gr_set (w3.drewN n) b 2 (.bool true)
  have hC4 := (hCB.drewN n).kept kk (by simp; omega)
  have hN4 := (hNA.drewN n).kept kk (by simp; omega)
  obtain ⟨d0, d1, d2⟩ := hC4.c
  obtain ⟨q0, q1, q2⟩ := hN4.c
  have z0 := hN4.fz 0
  have z1 := hN4.fz 1
  have z2 := hN4.fz 2
  have c2 := hbA.c2
  have f2 := hbA.fz 2
  go_wp2_with (go_at_call 177; refine (vdigit_w 0 _).mono ?_; rintro e w3 ⟨rfl, rfl⟩)
  have k3 := gr_set3 ((w3.drewN n).setCell ⟨b, 2, none⟩ (.bool true)) w.heap.size (.bool nt) (.int .i64 0) (.slice none 0 0)
  obtain ⟨g0, g1, g2⟩ := (hN4.set3 (.bool nt) (.int .i64 0) (.slice none 0 0)).c
  exact bodyPost_ret (v := .agg #[.bool nt, .int .i64 0, .slice none 0 0]) (by simp [results, Tryz.results151, go_sem, g0, g1, g2]) rfl ⟨rfl, hb4.kept k3 (by simp; omega), gr_own (gr_trans (gr_trans hg03 (gr_drewN w3 n _)) kk) k3 (Nat.le_refl _)⟩

set_option maxRecDepth 100000 in
set_option maxHeartbeats 1000000 in
theorem vcond_no2 (b : Nat) (s : ByteArray) (i : Nat) (nt : Bool) (w : World) (hi : i ≤ s.size) (hs : s.size ≤ 400) (hb : VAt b s i false w) (h : (Sv.pk s.data.toList i == 40) = true) (h2 : Sv.digB (Sv.pk s.data.toList (Sv.sk s.data.toList (i + 1))) = false) :
    Calls Tryz.prog 151 #[.pointer (some ⟨b, 0, none⟩), .bool nt] w fun e w' => e = .returned (.agg #[.bool nt, .int .i64 0, .slice none 0 0]) ∧ VAt b s (Sv.sk s.data.toList (i + 1)) true w' ∧ w.grownBy w' (some b) := by
  have hp0 := fun o => hb.kept (World.grownBy_alloc w o none) (by simp)
  have hN0 : C3 166 w.heap.size (.bool false) (.int .i64 0) (.slice none 0 0) (w.alloc (.cells #[.bool false, .int .i64 0, .slice none 0 0] 166)) := heap_alloc_new _ _
  have hlt := hb.lt
  have hp1 := Sv.byte_pos _ _ 40 (by decide) h
  rw [size_list] at hp1
  have hle := (Sv.sk_le s.data.toList (i + 1) (by rw [size_list]; exact hp1)).2
  rw [size_list] at hle
  obtain ⟨k, hk⟩ : ∃ k, Sv.sk s.data.toList (i + 1) = k := ⟨_, rfl⟩
  rw [hk] at h2 hle ⊢
  have HK := hide hk
  clear hk
  go_enter Tryz.func151, Tryz.ntmps151
  go_wp2_with fail
  refine (vone_yes b s i 40 _ rfl _ hi hs h (hp0 _)).mono ?_
  rintro e w1 ⟨rfl, hb1, hg1⟩
  go_wp2_with fail
  refine (vblanks_w b s (i + 1) w1 hp1 hs hb1).mono ?_
  rintro e w2 ⟨rfl, hb2, hg2⟩
  have hN2 := (hN0.kept hg1 (by simp; omega)).kept hg2 (by simp; omega)
  have hg02 := gr_trans (gr_trans (World.grownBy_alloc w _ (some b)) hg1) hg2
  clear hp0 hb1 hg1 hg2 hN0
  rw [unhide HK] at hb2
  have hgA := World.grownBy_alloc w2 (.cells #[.bool nt, .int .i64 0, .slice none 0 0] 166) none
  have hCB : C3 166 w2.heap.size (.bool nt) (.int .i64 0) (.slice none 0 0) (w2.alloc (.cells #[.bool nt, .int .i64 0, .slice none 0 0] 166)) := heap_alloc_new _ _
  have hbA := hb2.kept hgA (by simp)
  have hNA := hN2.kept hgA (by simp)
  have hC1 : w.heap.size < w2.heap.size := hN2.lt
  have hbC : b < w2.heap.size := hb2.lt
  have hg03 := gr_trans hg02 (gr_any hgA (some b))
  clear hgA hb2 hN2 hg02
  go_wp2_with fail
  refine (vhere_w b s k _ hle hs hbA).mono ?_
  rintro e w3' ⟨rfl, n, rfl⟩
  generalize w2.alloc (.cells #[.bool nt, .int .i64 0, .slice none 0 0] 166) = w3 at *
  generalize w2.heap.size = C at *
  have hb4 := (hbA.drewN n).set2 true
  have kk := gr_set (w3.drewN n) b 2 (.bool true)
  have hC4 := (hCB.drewN n).kept kk (by simp; omega)
  have hN4 := (hNA.drewN n).kept kk (by simp; omega)
  obtain ⟨d0, d1, d2⟩ := hC4.c
  obtain ⟨q0, q1, q2⟩ := hN4.c
  have z0 := hN4.fz 0
  have z1 := hN4.fz 1
  have z2 := hN4.fz 2
  have c2 := hbA.c2
  have f2 := hbA.fz 2
  go_wp2_with (go_at_call 177; refine (vdigit_w _ _).mono ?_; rintro e w3 ⟨rfl, rfl⟩)
  have k3 := gr_set3 ((w3.drewN n).setCell ⟨b, 2, none⟩ (.bool true)) w.heap.size (.bool nt) (.int .i64 0) (.slice none 0 0)
  obtain ⟨g0, g1, g2⟩ := (hN4.set3 (.bool nt) (.int .i64 0) (.slice none 0 0)).c
  exact bodyPost_ret (v := .agg #[.bool nt, .int .i64 0, .slice none 0 0]) (by simp [results, Tryz.results151, go_sem, g0, g1, g2]) rfl ⟨rfl, hb4.kept k3 (by simp; omega), gr_own (gr_trans (gr_trans hg03 (gr_drewN w3 n _)) kk) k3 (Nat.le_refl _)⟩

/-- A condition, told whole. -/
theorem vcond_any (b : Nat) (s : ByteArray) (i : Nat) (nt : Bool) (w : World) (hi : i ≤ s.size) (hs : s.size ≤ 400) (hsk : Sv.sk s.data.toList i = i) (hb : VAt b s i false w) :
    Calls Tryz.prog 151 #[.pointer (some ⟨b, 0, none⟩), .bool nt] w fun e w' => ∃ (kd : Int) (ao : Option Addr) (n cap j : Nat) (bd : Bool), e = .returned (.agg #[.bool nt, .int .i64 kd, .slice ao n cap]) ∧ VAt b s j bd w' ∧ w.grownBy w' (some b) ∧
      Hid ((bd = true ∧ Sv.cond s.data.toList i = .inl j) ∨ (bd = false ∧ ∃ (c : Sv.Cond), Sv.cond s.data.toList i = .inr (c, j) ∧ (c.kind : Int) = kd ∧ VTsAt w.heap.size (.slice ao n cap) c.terms w')) := by
  cases h : Sv.pk s.data.toList i == 40
  · refine (vcond_no1 b s i nt w hi hs hb h).mono ?_
    rintro e w' ⟨rfl, h1, h2⟩
    refine ⟨0, none, 0, 0, i, true, rfl, h1, h2, .inl ⟨rfl, ?_⟩⟩
    unfold Sv.cond; rw [hsk, h]; rfl
  · cases hd : Sv.digB (Sv.pk s.data.toList (Sv.sk s.data.toList (i + 1)))
    · refine (vcond_no2 b s i nt w hi hs hb h hd).mono ?_
      rintro e w' ⟨rfl, h1, h2⟩
      refine ⟨0, none, 0, 0, _, true, rfl, h1, h2, .inl ⟨rfl, ?_⟩⟩
      unfold Sv.cond; simp only; rw [hsk, h, if_pos rfl, hd]; rfl
    · refine (vcond_yes b s i nt w hi hs hb h hd _ rfl _ rfl).mono ?_
      intro e w' hp
      have e1 : Sv.cond s.data.toList i = match Sv.terms s.data.toList (Sv.sk s.data.toList (i + 1) + 1) with
          | .inl m => .inl m
          | .inr (ts, m) => .inr (⟨false, (Sv.pk s.data.toList (Sv.sk s.data.toList (i + 1))).toNat - 48, ts⟩, m) := by
        unfold Sv.cond; simp only; rw [hsk, h, if_pos rfl, hd, if_pos rfl]
        cases Sv.terms s.data.toList (Sv.sk s.data.toList (i + 1) + 1) <;> rfl
      cases hr : Sv.terms s.data.toList (Sv.sk s.data.toList (i + 1) + 1) with
      | inl k =>
        rw [hr] at hp e1
        obtain ⟨q, ao, n, cap, rfl, h1, h2⟩ := hp
        exact ⟨q, ao, n, cap, k, true, rfl, h1, h2, .inl ⟨rfl, e1⟩⟩
      | inr q =>
        obtain ⟨ts, j⟩ := q
        rw [hr] at hp e1
        obtain ⟨u, rfl, h1, h2, h3⟩ := hp
        obtain ⟨ao, cap, rfl⟩ := h1.slice
        exact ⟨_, ao, _, cap, j, false, rfl, h2, h3, .inr ⟨rfl, _, e1, rfl, h1⟩⟩

theorem Sv.cond_sk (l : List UInt8) (i : Nat) : Sv.cond l (Sv.sk l i) = Sv.cond l i := by
  unfold Sv.cond; rw [Sv.sk_sk]

/-- The cells of a list of conditions. -/
def VCsCells (B : Nat) (w : World) : List Sv.Cond → List Value → Prop
  | [], xs => xs = []
  | c :: cs, xs => ∃ u ys, xs = .bool c.neg :: .int .i64 c.kind :: u :: ys ∧ VTsAt B u c.terms w ∧ VCsCells B w cs ys
theorem VCsCells.row {B : Nat} {w w' : World} {base' : Nat} {e' : TypeId} {row : Option Nat} (hg : w.grownBy w' row) (hr : RowOk base' e' row w) (hne : e' ≠ 169) : ∀ (cs : List Sv.Cond) (xs : List Value), VCsCells B w cs xs → VCsCells B w' cs xs
  | [], _, h => h
  | _ :: cs, _, ⟨u, ys, h1, h2, h3⟩ => ⟨u, ys, h1, h2.row hg hr hne, VCsCells.row hg hr hne cs ys h3⟩
theorem VCsCells.snoc {B : Nat} {w : World} (c : Sv.Cond) (u : Value) (hu : VTsAt B u c.terms w) : ∀ (cs : List Sv.Cond) (xs : List Value), VCsCells B w cs xs → VCsCells B w (cs ++ [c]) (xs ++ [.bool c.neg, .int .i64 c.kind, u])
  | [], xs, h => ⟨u, [], by rw [show xs = [] from h]; rfl, hu, rfl⟩
  | _ :: cs, _, ⟨v, ys, h1, h2, h3⟩ => ⟨v, ys ++ [.bool c.neg, .int .i64 c.kind, u], by rw [h1]; rfl, h2, VCsCells.snoc c u hu cs ys h3⟩
/-- A list of conditions lies behind a slice. -/
def VCsAt (base : Nat) (v : Value) (cs : List Sv.Cond) (w : World) : Prop := ∃ xs, w.ownsRow base 166 3 v cs.length xs ∧ VCsCells base w cs xs
theorem VCsAt.slice {base : Nat} {u : Value} {cs : List Sv.Cond} {w : World} (h : VCsAt base u cs w) : ∃ ao cap, u = .slice ao cs.length cap := by
  obtain ⟨xs, h, _⟩ := h
  rcases h.2 with ⟨h1, h2⟩ | ⟨g, cap, cur, h1, _⟩
  · exact ⟨none, 0, by rw [h2]; exact h1⟩
  · exact ⟨_, _, h1⟩
theorem VCsAt.row {w w' : World} {base base' : Nat} {e' : TypeId} {v : Value} {cs : List Sv.Cond} {row : Option Nat} (h : VCsAt base v cs w) (hg : w.grownBy w' row) (hr : RowOk base' e' row w) (hne : e' ≠ 169) (hne2 : e' ≠ 166) : VCsAt base v cs w' := by
  obtain ⟨xs, h1, h2⟩ := h
  exact ⟨xs, own_row h1 hg hr hne2, VCsCells.row hg hr hne cs xs h2⟩
theorem Tryz.infoVCond : (Tryz.prog.info? 166).map (fun i => (i.zero, i.size, i.bytes)) = some (some (.agg #[.bool false, .int .i64 0, .slice none 0 0]), 3, 40) := by kernel_rfl

/-- What the document's reader of a rule comes to. -/
def VRPost (b : Nat) (s : ByteArray) (w : World) (r : Nat ⊕ (Sv.Rule × Nat)) (e : Ending) (w' : World) : Prop :=
  match r with
  | .inl k => ∃ (nm : ByteArray) (ao : Option Addr) (n cap : Nat), e = .returned (.agg #[.string nm, .slice ao n cap]) ∧ VAt b s k true w' ∧ w.grownBy w' (some b)
  | .inr (q, j) => ∃ u, e = .returned (.agg #[.string ⟨q.name.toArray⟩, u]) ∧ VCsAt w.heap.size u q.conds w' ∧ VAt b s j false w' ∧ w.grownBy w' (some b)

end Go.Proofs.YtolhbeekfjnfmaaGreatDoor

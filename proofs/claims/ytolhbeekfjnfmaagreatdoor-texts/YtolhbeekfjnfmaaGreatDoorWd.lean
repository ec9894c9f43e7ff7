/- The reader's terms. -/
import Derived.Test.YtolhbeekfjnfmaaGreatDoorWc
namespace Go.Proofs.YtolhbeekfjnfmaaGreatDoor
open Go.RowKit

theorem u8_95 (c : UInt8) : ((c.toNat : Int) == 95) = (c == 95) := u8_inj c 95

/-- A result is laid into the call's own cells. -/
theorem fin3 {w W : World} {b : Nat} {s : ByteArray} {j : Nat} {v : Value} {N : Nat} {p q r : Value} (hT : TAt N p q r W) (hP : PAt b s j v W) (hg : w.grownBy W (some b)) (hN : w.heap.size ≤ N) (hne : N ≠ b) (x y z : Value) :
    TAt N x y z (((W.setCell ⟨N, 0, none⟩ x).setCell ⟨N, 1, none⟩ y).setCell ⟨N, 2, none⟩ z) ∧ PAt b s j v (((W.setCell ⟨N, 0, none⟩ x).setCell ⟨N, 1, none⟩ y).setCell ⟨N, 2, none⟩ z) ∧ w.grownBy (((W.setCell ⟨N, 0, none⟩ x).setCell ⟨N, 1, none⟩ y).setCell ⟨N, 2, none⟩ z) (some b) :=
  ⟨hT.set3 x y z, hP.kept (gr_set3 W N x y z) (by simpa using fun e => hne e.symm), gr_own hg (gr_set3 W N x y z) hN⟩

set_option maxHeartbeats 400000 in
theorem term_any (b : Nat) (s : ByteArray) (i : Nat) (v : Value) (w : World) (hi : i ≤ s.size) (hs : s.size ≤ 400) (h : (Sv.pk s.data.toList i == 95) = true) (hb : PAt b s i v w) :
    Calls Tryz.prog 199 #[.pointer (some ⟨b, 0, none⟩)] w fun e w' => e = .returned (.tuple #[.agg #[.int .i64 0, .int .u8 0, .int .i64 0], .nilIface]) ∧ PAt b s (i + 1) v w' ∧ w.grownBy w' (some b) := by
  have hi1 := Sv.byte_pos _ _ 95 (by decide) h
  rw [size_list] at hi1
  have e1 := (u8_95 (Sv.pk s.data.toList i)).trans h
  clear h
  have hlt := hb.lt
  have hp0 := fun o => hb.kept (World.grownBy_alloc w o none) (by simp)
  have c1 := fun o => (hp0 o).c1
  have f1 := fun o => (hp0 o).fz 1
  have hN0 : TAt w.heap.size (.int .i64 0) (.int .u8 0) (.int .i64 0) (w.alloc (.cells #[.int .i64 0, .int .u8 0, .int .i64 0] 258)) := heap_alloc_new _ _
  go_enter Tryz.func199, Tryz.ntmps199
  go_wp2_with (go_at_call 124; refine (peek_w b s i v _ hi hs (hp0 _)).mono ?_; rintro e w1 ⟨rfl, n, rfl⟩)
  obtain ⟨hT, hP, hg⟩ := fin3 ((hN0.drewN n).kept (gr_set _ b 1 (.int .i64 ((i : Int) + 1))) (by simp; omega)) (((hp0 _).drewN n).set1 (i + 1)) (gr_trans (gr_trans (World.grownBy_alloc w _ (some b)) (gr_drewN _ n _)) (gr_set _ b 1 _)) (Nat.le_refl _) (by omega) (.int .i64 0) (.int .u8 0) (.int .i64 0)
  obtain ⟨q0, q1, q2⟩ := hT.c
  exact bodyPost_ret (v := .tuple #[.agg #[.int .i64 0, .int .u8 0, .int .i64 0], .nilIface]) (by simp [results, Tryz.results199, go_sem, q0, q1, q2]) rfl ⟨rfl, hP, hg⟩

set_option maxHeartbeats 400000 in
theorem term_var (b : Nat) (s : ByteArray) (i : Nat) (v : Value) (w : World) (hi : i ≤ s.size) (hs : s.size ≤ 400) (h0 : (Sv.pk s.data.toList i == 95) = false) (h : Sv.letB (Sv.pk s.data.toList i) = true) (hb : PAt b s i v w) :
    Calls Tryz.prog 199 #[.pointer (some ⟨b, 0, none⟩)] w fun e w' => e = .returned (.tuple #[.agg #[.int .i64 1, .int .u8 (Sv.pk s.data.toList i).toNat, .int .i64 0], .nilIface]) ∧ PAt b s (i + 1) v w' ∧ w.grownBy w' (some b) := by
  have hi1 := Sv.let_pos _ _ h
  rw [size_list] at hi1
  have e1 := (u8_95 (Sv.pk s.data.toList i)).trans h0
  clear h0
  have hlt := hb.lt
  have hp0 := fun o => hb.kept (World.grownBy_alloc w o none) (by simp)
  have c1 := fun o => (hp0 o).c1
  have f1 := fun o => (hp0 o).fz 1
  have hN0 : TAt w.heap.size (.int .i64 0) (.int .u8 0) (.int .i64 0) (w.alloc (.cells #[.int .i64 0, .int .u8 0, .int .i64 0] 258)) := heap_alloc_new _ _
  go_enter Tryz.func199, Tryz.ntmps199
  go_wp2_with (first | (go_at_call 124; refine (peek_w b s i v _ hi hs (hp0 _)).mono ?_; rintro e w1 ⟨rfl, n, rfl⟩) | (go_at_call 153; refine (isLetter_w _ _).mono ?_; rintro e w3 ⟨rfl, rfl⟩))
  obtain ⟨hT, hP, hg⟩ := fin3 ((hN0.drewN n).kept (gr_set _ b 1 (.int .i64 ((i : Int) + 1))) (by simp; omega)) (((hp0 _).drewN n).set1 (i + 1)) (gr_trans (gr_trans (World.grownBy_alloc w _ (some b)) (gr_drewN _ n _)) (gr_set _ b 1 _)) (Nat.le_refl _) (by omega) (.int .i64 1) (.int .u8 (Sv.pk s.data.toList i).toNat) (.int .i64 0)
  obtain ⟨q0, q1, q2⟩ := hT.c
  exact bodyPost_ret (v := .tuple #[.agg #[.int .i64 1, .int .u8 (Sv.pk s.data.toList i).toNat, .int .i64 0], .nilIface]) (by simp [results, Tryz.results199, go_sem, q0, q1, q2]) rfl ⟨rfl, hP, hg⟩

set_option maxHeartbeats 400000 in
theorem term_none (b : Nat) (s : ByteArray) (i : Nat) (v : Value) (w : World) (tT : TypeId) (aT : Addr) (eL : Value) (hi : i ≤ s.size) (hs : s.size ≤ 400) (h0 : (Sv.pk s.data.toList i == 95) = false) (h1 : Sv.letB (Sv.pk s.data.toList i) = false) (h2 : (Sv.pk s.data.toList i == 45) = false) (h3 : (Sv.digB (Sv.pk s.data.toList i) && !Sv.behind s.data.toList i) = false) (hb : PAt b s i v w) (hG : GOk b (.iface tT (.pointer (some aT))) eL w) :
    Calls Tryz.prog 199 #[.pointer (some ⟨b, 0, none⟩)] w fun e w' => ∃ y, e = .returned (.tuple #[.agg #[.int .i64 0, .int .u8 0, .int .i64 0], y]) ∧ Bad b i (.iface tT (.pointer (some aT))) w y w' := by
  have e1 := (u8_95 (Sv.pk s.data.toList i)).trans h0
  have e2 := (u8_45 (Sv.pk s.data.toList i)).trans h2
  clear h0 h2
  have hlt := hb.lt
  have hp0 := fun o => hb.kept (World.grownBy_alloc w o none) (by simp)
  have cT := fun o => (hG.kept (World.grownBy_alloc w o (some b))).cT
  have hN0 : TAt w.heap.size (.int .i64 0) (.int .u8 0) (.int .i64 0) (w.alloc (.cells #[.int .i64 0, .int .u8 0, .int .i64 0] 258)) := heap_alloc_new _ _
  cases hd : Sv.digB (Sv.pk s.data.toList i)
  · clear h3
    go_enter Tryz.func199, Tryz.ntmps199
    go_wp2_with (first | (go_at_call 124; refine (peek_w b s i v _ hi hs (hp0 _)).mono ?_; rintro e w1 ⟨rfl, n, rfl⟩) | (go_at_call 153; refine (isLetter_w _ _).mono ?_; rintro e w3 ⟨rfl, rfl⟩) | (go_at_call 198; refine (isDigit_w _ _).mono ?_; rintro e w3 ⟨rfl, rfl⟩))
    refine (wrong_w b s _ v _ tT aT ((hp0 _).drewN _) (cT _)).mono ?_
    rintro e w4 ⟨f, rfl, hf, hF, hg2⟩
    have hN4 := hN0.kept (gr_un hg2) (by simp)
    obtain ⟨d0, d1, d2⟩ := hN4.c
    have z0 := hN4.fz 0
    have z1 := hN4.fz 1
    have z2 := hN4.fz 2
    go_wp2
    have k3 := gr_set3 w4 w.heap.size (.int .i64 0) (.int .u8 0) (.int .i64 0)
    obtain ⟨q0, q1, q2⟩ := (hN4.set3 (.int .i64 0) (.int .u8 0) (.int .i64 0)).c
    have hg := gr_trans (World.grownBy_alloc w (.cells #[.int .i64 0, .int .u8 0, .int .i64 0] 258) (some b)) (gr_any (gr_un hg2) (some b))
    have hf1 : w.heap.size + 1 ≤ f := by simpa using hf
    exact bodyPost_ret (v := .tuple #[.agg #[.int .i64 0, .int .u8 0, .int .i64 0], .iface 112 (.pointer (some ⟨f, 0, none⟩))]) (by simp [results, Tryz.results199, go_sem, q0, q1, q2]) rfl ⟨_, rfl, f, rfl, by omega, hF.kept k3 (by simp; omega), gr_own hg k3 (Nat.le_refl _)⟩
  · have hbd : Sv.behind s.data.toList i = true := by simpa [hd] using h3
    clear h3
    go_enter Tryz.func199, Tryz.ntmps199
    go_wp2_with (first | (go_at_call 124; refine (peek_w b s i v _ hi hs (hp0 _)).mono ?_; rintro e w1 ⟨rfl, n, rfl⟩) | (go_at_call 153; refine (isLetter_w _ _).mono ?_; rintro e w3 ⟨rfl, rfl⟩) | (go_at_call 198; refine (isDigit_w _ _).mono ?_; rintro e w3 ⟨rfl, rfl⟩) | (go_at_call 209; refine (behind_w b s i v _ hi hs ((hp0 _).drewN _)).mono ?_; rintro e w3 ⟨rfl, n3, rfl⟩))
    refine (wrong_w b s _ v _ tT aT ((hp0 _).drewN _) (cT _)).mono ?_
    rintro e w4 ⟨f, rfl, hf, hF, hg2⟩
    have hN4 := hN0.kept (gr_un hg2) (by simp)
    obtain ⟨d0, d1, d2⟩ := hN4.c
    have z0 := hN4.fz 0
    have z1 := hN4.fz 1
    have z2 := hN4.fz 2
    go_wp2
    have k3 := gr_set3 w4 w.heap.size (.int .i64 0) (.int .u8 0) (.int .i64 0)
    obtain ⟨q0, q1, q2⟩ := (hN4.set3 (.int .i64 0) (.int .u8 0) (.int .i64 0)).c
    have hg := gr_trans (World.grownBy_alloc w (.cells #[.int .i64 0, .int .u8 0, .int .i64 0] 258) (some b)) (gr_any (gr_un hg2) (some b))
    have hf1 : w.heap.size + 1 ≤ f := by simpa using hf
    exact bodyPost_ret (v := .tuple #[.agg #[.int .i64 0, .int .u8 0, .int .i64 0], .iface 112 (.pointer (some ⟨f, 0, none⟩))]) (by simp [results, Tryz.results199, go_sem, q0, q1, q2]) rfl ⟨_, rfl, f, rfl, by omega, hF.kept k3 (by simp; omega), gr_own hg k3 (Nat.le_refl _)⟩

theorem TAt.of_bad {b i : Nat} {eT x : Value} {N : Nat} {p q r : Value} {w w' : World} (h : TAt N p q r w) (hB : Bad b i eT w x w') (hne : N ≠ b) : TAt N p q r w' := by
  obtain ⟨f, _, _, _, hg⟩ := hB
  exact h.kept hg (by simpa using hne)

set_option maxHeartbeats 400000 in
theorem term_num (b : Nat) (s : ByteArray) (i : Nat) (v : Value) (w : World) (tT : TypeId) (aT : Addr) (eL : Value) (hi : i ≤ s.size) (hs : s.size ≤ 400) (h0 : (Sv.pk s.data.toList i == 95) = false) (h1 : Sv.letB (Sv.pk s.data.toList i) = false) (h2 : (Sv.pk s.data.toList i == 45 || (Sv.digB (Sv.pk s.data.toList i) && !Sv.behind s.data.toList i)) = true) (hb : PAt b s i v w) (hG : GOk b (.iface tT (.pointer (some aT))) eL w) :
    Calls Tryz.prog 199 #[.pointer (some ⟨b, 0, none⟩)] w fun e w' => TermPost b s v (.iface tT (.pointer (some aT))) w (Sv.number s.data.toList i) e w' := by
  have e1 := (u8_95 (Sv.pk s.data.toList i)).trans h0
  clear h0
  have hlt := hb.lt
  have hp0 := fun o => hb.kept (World.grownBy_alloc w o none) (by simp)
  have hG0 := fun o => (hG.kept (World.grownBy_alloc w o (some b)))
  have hN0 : TAt w.heap.size (.int .i64 0) (.int .u8 0) (.int .i64 0) (w.alloc (.cells #[.int .i64 0, .int .u8 0, .int .i64 0] 258)) := heap_alloc_new _ _
  generalize hr : Sv.number s.data.toList i = r
  have HR : Hid (Sv.number s.data.toList i = r) := hr
  clear hr
  have fin : ∀ (e : Ending) (w4 : World) (n : Nat), TermPost b s v (.iface tT (.pointer (some aT))) ((w.alloc (.cells #[.int .i64 0, .int .u8 0, .int .i64 0] 258)).drewN n) (Sv.number s.data.toList i) e w4 →
      ∃ (x y z : Int) (yy : Value), e = .returned (.tuple #[.agg #[.int .i64 x, .int .u8 y, .int .i64 z], yy]) ∧ TAt w.heap.size (.int .i64 0) (.int .u8 0) (.int .i64 0) w4 ∧ TermPost b s v (.iface tT (.pointer (some aT))) w r (.returned (.tuple #[.agg #[.int .i64 x, .int .u8 y, .int .i64 z], yy])) (((w4.setCell ⟨w.heap.size, 0, none⟩ (.int .i64 x)).setCell ⟨w.heap.size, 1, none⟩ (.int .u8 y)).setCell ⟨w.heap.size, 2, none⟩ (.int .i64 z)) := by
    intro e w4 n hp
    rw [HR.out] at hp
    cases r with
    | inl k =>
      obtain ⟨y, rfl, f, rfl, hf, hF, hg⟩ := hp
      have hg' := gr_trans (World.grownBy_alloc w (.cells #[.int .i64 0, .int .u8 0, .int .i64 0] 258) (some b)) (gr_un hg)
      have hf1 : w.heap.size + 1 ≤ f := by simpa using hf
      have k3 := gr_set3 w4 w.heap.size (.int .i64 0) (.int .u8 0) (.int .i64 0)
      exact ⟨_, _, _, _, rfl, (hN0.drewN n).kept hg (by simp; omega), _, rfl, f, rfl, by omega, hF.kept k3 (by simp; omega), gr_own hg' k3 (Nat.le_refl _)⟩
    | inr q =>
      obtain ⟨t, j⟩ := q
      obtain ⟨rfl, hP, hg⟩ := hp
      have hg' := gr_trans (World.grownBy_alloc w (.cells #[.int .i64 0, .int .u8 0, .int .i64 0] 258) (some b)) (gr_un hg)
      have hN4 := (hN0.drewN n).kept hg (by simp; omega)
      obtain ⟨_, hP', hg''⟩ := fin3 hN4 hP hg' (Nat.le_refl _) (by omega) (.int .i64 t.sort) (.int .u8 t.letter.toNat) (.int .i64 t.value)
      exact ⟨_, _, _, _, rfl, hN4, rfl, hP', hg''⟩
  cases h45 : Sv.pk s.data.toList i == 45
  · have e2 := (u8_45 (Sv.pk s.data.toList i)).trans h45
    rw [h45] at h2
    simp only [Bool.false_or, Bool.and_eq_true, Bool.not_eq_true'] at h2
    obtain ⟨hd, hbd⟩ := h2
    clear h45
    go_enter Tryz.func199, Tryz.ntmps199
    go_wp2_with (first | (go_at_call 124; refine (peek_w b s i v _ hi hs (hp0 _)).mono ?_; rintro e w1 ⟨rfl, n, rfl⟩) | (go_at_call 153; refine (isLetter_w _ _).mono ?_; rintro e w3 ⟨rfl, rfl⟩) | (go_at_call 198; refine (isDigit_w _ _).mono ?_; rintro e w3 ⟨rfl, rfl⟩) | (go_at_call 209; refine (behind_w b s i v _ hi hs ((hp0 _).drewN _)).mono ?_; rintro e w3 ⟨rfl, n3, rfl⟩))
    refine (number_w b s i v _ tT aT eL hi hs ((hp0 _).drewN _) ((hG0 _).drewN _)).mono ?_
    intro e w4 hp
    obtain ⟨x, y, z, yy, rfl, hN4, hpost⟩ := fin _ _ _ hp
    clear hp fin
    obtain ⟨d0, d1, d2⟩ := hN4.c
    have z0 := hN4.fz 0
    have z1 := hN4.fz 1
    have z2 := hN4.fz 2
    go_wp2
    obtain ⟨q0, q1, q2⟩ := (hN4.set3 (.int .i64 x) (.int .u8 y) (.int .i64 z)).c
    exact bodyPost_ret (v := .tuple #[.agg #[.int .i64 x, .int .u8 y, .int .i64 z], yy]) (by simp [results, Tryz.results199, go_sem, q0, q1, q2]) rfl hpost
  · have e2 := (u8_45 (Sv.pk s.data.toList i)).trans h45
    clear h45 h2
    go_enter Tryz.func199, Tryz.ntmps199
    go_wp2_with (first | (go_at_call 124; refine (peek_w b s i v _ hi hs (hp0 _)).mono ?_; rintro e w1 ⟨rfl, n, rfl⟩) | (go_at_call 153; refine (isLetter_w _ _).mono ?_; rintro e w3 ⟨rfl, rfl⟩))
    refine (number_w b s i v _ tT aT eL hi hs ((hp0 _).drewN _) ((hG0 _).drewN _)).mono ?_
    intro e w4 hp
    obtain ⟨x, y, z, yy, rfl, hN4, hpost⟩ := fin _ _ _ hp
    clear hp fin
    obtain ⟨d0, d1, d2⟩ := hN4.c
    have z0 := hN4.fz 0
    have z1 := hN4.fz 1
    have z2 := hN4.fz 2
    go_wp2
    obtain ⟨q0, q1, q2⟩ := (hN4.set3 (.int .i64 x) (.int .u8 y) (.int .i64 z)).c
    exact bodyPost_ret (v := .tuple #[.agg #[.int .i64 x, .int .u8 y, .int .i64 z], yy]) (by simp [results, Tryz.results199, go_sem, q0, q1, q2]) rfl hpost

theorem term_w (b : Nat) (s : ByteArray) (i : Nat) (v : Value) (w : World) (tT : TypeId) (aT : Addr) (eL : Value) (hi : i ≤ s.size) (hs : s.size ≤ 400) (hb : PAt b s i v w) (hG : GOk b (.iface tT (.pointer (some aT))) eL w) :
    Calls Tryz.prog 199 #[.pointer (some ⟨b, 0, none⟩)] w fun e w' => TermPost b s v (.iface tT (.pointer (some aT))) w (Sv.term s.data.toList i) e w' := by
  unfold Sv.term
  cases h0 : Sv.pk s.data.toList i == 95
  · rw [if_neg (by simp)]
    cases h1 : Sv.letB (Sv.pk s.data.toList i)
    · rw [if_neg (by simp)]
      cases h2 : Sv.pk s.data.toList i == 45 || (Sv.digB (Sv.pk s.data.toList i) && !Sv.behind s.data.toList i)
      · rw [if_neg (by simp)]
        rw [Bool.or_eq_false_iff] at h2
        exact term_none b s i v w tT aT eL hi hs h0 h1 h2.1 h2.2 hb hG
      · rw [if_pos rfl]
        exact term_num b s i v w tT aT eL hi hs h0 h1 h2 hb hG
    · rw [if_pos rfl]
      exact term_var b s i v w hi hs h0 h1 hb
  · rw [if_pos rfl]
    exact term_any b s i v w hi hs h0 hb

end Go.Proofs.YtolhbeekfjnfmaaGreatDoor

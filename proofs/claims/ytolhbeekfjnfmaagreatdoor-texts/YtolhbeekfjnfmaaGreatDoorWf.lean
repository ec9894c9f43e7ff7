/- The reader's conditions. -/
import Derived.Test.YtolhbeekfjnfmaaGreatDoorWe
namespace Go.Proofs.YtolhbeekfjnfmaaGreatDoor
open Go.RowKit

theorem hide {p : Prop} (h : p) : Hid p := h
theorem unhide {p : Prop} (h : Hid p) : p := h

/-- Three cells of a call's own. -/
def C3 (T : TypeId) (N : Nat) (x y z : Value) (w : World) : Prop := w.heap[N]? = some (.cells #[x, y, z] T (0, 0))
theorem C3.lt {T : TypeId} {N : Nat} {x y z : Value} {w : World} (h : C3 T N x y z w) : N < w.heap.size := (Array.getElem?_eq_some_iff.1 h).1
theorem C3.kept {T : TypeId} {N : Nat} {x y z : Value} {w w' : World} {row : Option Nat} (h : C3 T N x y z w) (g : w.grownBy w' row) (hne : some N ≠ row) : C3 T N x y z w' := by
  unfold C3; rw [g.block N h.lt hne]; exact h
theorem C3.c {T : TypeId} {N : Nat} {x y z : Value} {w : World} (h : C3 T N x y z w) : w.cell? ⟨N, 0, none⟩ = some x ∧ w.cell? ⟨N, 1, none⟩ = some y ∧ w.cell? ⟨N, 2, none⟩ = some z := by
  unfold C3 at h; simp [World.cell?, h]
theorem C3.fz {T : TypeId} {N : Nat} {x y z : Value} {w : World} (h : C3 T N x y z w) (o : Nat) : w.frozen? ⟨N, o, none⟩ = false := by
  unfold C3 at h; simp [World.frozen?, h]
theorem C3.set3 {T : TypeId} {N : Nat} {a b c : Value} {w : World} (h : C3 T N a b c w) (x y z : Value) : C3 T N x y z (((w.setCell ⟨N, 0, none⟩ x).setCell ⟨N, 1, none⟩ y).setCell ⟨N, 2, none⟩ z) := by
  unfold C3 at h ⊢
  have h1 := heap_setCell_same w N 0 _ _ x h
  have h2 := heap_setCell_same _ N 1 _ _ y h1
  have h3 := heap_setCell_same _ N 2 _ _ z h2
  rw [h3]; rfl
/-- A fault that comes up through a call with three cells of its own. -/
theorem bad_fin3 {b k f : Nat} {eT : Value} {w W0 W : World} {N : Nat} (hf : W0.heap.size ≤ f) (hF : FAt f k eT W) (hg : W0.grownBy W (some b)) (hg0 : w.grownBy W0 (some b)) (hlt : N < W0.heap.size) (hN : w.heap.size ≤ N) (x y z : Value) :
    Bad b k eT w (.iface 112 (.pointer (some ⟨f, 0, none⟩))) (((W.setCell ⟨N, 0, none⟩ x).setCell ⟨N, 1, none⟩ y).setCell ⟨N, 2, none⟩ z) :=
  ⟨f, rfl, Nat.le_trans hg0.size hf, hF.kept (gr_set3 W N x y z) (by simp; omega), gr_own (gr_trans hg0 hg) (gr_set3 W N x y z) hN⟩

theorem RowOk.one {T : TypeId} {N base : Nat} {x y z : Value} {w : World} (h : C3 T N x y z w) (hb : base ≤ N) : RowOk base T (some N) w := by
  intro g hg
  cases hg
  exact ⟨hb, _, _, h⟩
theorem own_weak {w : World} {base base' : Nat} {e : TypeId} {size : Nat} {v : Value} {n : Nat} {xs : List Value} (h : w.ownsRow base e size v n xs) (hb : base' ≤ base) : w.ownsRow base' e size v n xs := by
  refine ⟨h.1, ?_⟩
  rcases h.2 with h1 | ⟨g, cap, cur, h1, h2, h3⟩
  · exact .inl h1
  · exact .inr ⟨g, cap, cur, h1, Nat.le_trans hb h2, h3⟩

/-- What the reader of a condition comes to. -/
def CondPost (b : Nat) (s : ByteArray) (f : Bool) (eT eL : Value) (w : World) (r : Nat ⊕ (Sv.Cond × Nat)) (e : Ending) (w' : World) : Prop :=
  match r with
  | .inl k => ∃ y, e = .returned (.tuple #[.agg #[.bool false, .int .i64 0, .slice none 0 0], y]) ∧ Bad b k eT w y w'
  | .inr (c, j) => ∃ u, e = .returned (.tuple #[.agg #[.bool c.neg, .int .i64 c.kind, u], .nilIface]) ∧ TsAt w.heap.size u c.terms w' ∧ St b s j (f || Sv.exC c) eT eL w' ∧ w.grownBy w' (some b)

theorem Sv.cond_neg (l : List UInt8) (i : Nat) (c : Sv.Cond) (j : Nat) (h : Sv.cond l i = .inr (c, j)) : c.neg = false := by
  unfold Sv.cond at h
  simp only at h
  split at h
  · split at h
    · split at h
      · cases h
      · simp only [Sum.inr.injEq, Prod.mk.injEq] at h
        rw [← h.1]
    · cases h
  · cases h

set_option maxHeartbeats 400000 in
theorem cond_no1 (b : Nat) (s : ByteArray) (i : Nat) (f : Bool) (tT : TypeId) (aT : Addr) (tL : TypeId) (aL : Addr) (w : World) (hi : i ≤ s.size) (hs : s.size ≤ 400)
    (hb : St b s i f (.iface tT (.pointer (some aT))) (.iface tL (.pointer (some aL))) w) (h : (Sv.pk s.data.toList (Sv.sk s.data.toList i) == 40) = false) :
    Calls Tryz.prog 157 #[.pointer (some ⟨b, 0, none⟩)] w fun e w' => ∃ y, e = .returned (.tuple #[.agg #[.bool false, .int .i64 0, .slice none 0 0], y]) ∧ Bad b (Sv.sk s.data.toList i) (.iface tT (.pointer (some aT))) w y w' := by
  obtain ⟨v, hp, hex, hG⟩ := hb
  have hp0 := fun o => hp.kept (World.grownBy_alloc w o none) (by simp)
  have hG0 := fun o => hG.kept (World.grownBy_alloc w o (some b))
  have hN0 : C3 200 w.heap.size (.bool false) (.int .i64 0) (.slice none 0 0) (w.alloc (.cells #[.bool false, .int .i64 0, .slice none 0 0] 200)) := heap_alloc_new _ _
  have hlt := hp.lt
  go_enter Tryz.func157, Tryz.ntmps157
  go_wp2_with fail
  refine (expect_no b s i v 40 _ rfl _ tT aT _ hi hs h (hp0 _) (hG0 _)).mono ?_
  rintro e w1 ⟨y, rfl, ff, rfl, hf, hF, hg⟩
  have hN1 := hN0.kept hg (by simp; omega)
  obtain ⟨d0, d1, d2⟩ := hN1.c
  have z0 := hN1.fz 0
  have z1 := hN1.fz 1
  have z2 := hN1.fz 2
  have hbad := bad_fin3 hf hF hg (World.grownBy_alloc w _ (some b)) hN0.lt (Nat.le_refl _) (.bool false) (.int .i64 0) (.slice none 0 0)
  clear hf hF hg
  go_wp2
  obtain ⟨q0, q1, q2⟩ := (hN1.set3 (.bool false) (.int .i64 0) (.slice none 0 0)).c
  exact bodyPost_ret (v := .tuple #[.agg #[.bool false, .int .i64 0, .slice none 0 0], .iface 112 (.pointer (some ⟨ff, 0, none⟩))]) (by simp [results, Tryz.results157, go_sem, q0, q1, q2]) rfl ⟨_, rfl, hbad⟩

set_option maxHeartbeats 400000 in
theorem cond_no2 (b : Nat) (s : ByteArray) (i : Nat) (f : Bool) (tT : TypeId) (aT : Addr) (tL : TypeId) (aL : Addr) (w : World) (hi : i ≤ s.size) (hs : s.size ≤ 400)
    (hb : St b s i f (.iface tT (.pointer (some aT))) (.iface tL (.pointer (some aL))) w) (h : (Sv.pk s.data.toList (Sv.sk s.data.toList i) == 40) = true) (h2 : Sv.digB (Sv.pk s.data.toList (Sv.sk s.data.toList (Sv.sk s.data.toList i + 1))) = false) :
    Calls Tryz.prog 157 #[.pointer (some ⟨b, 0, none⟩)] w fun e w' => ∃ y, e = .returned (.tuple #[.agg #[.bool false, .int .i64 0, .slice none 0 0], y]) ∧ Bad b (Sv.sk s.data.toList (Sv.sk s.data.toList i + 1)) (.iface tT (.pointer (some aT))) w y w' := by
  obtain ⟨v, hp, hex, hG⟩ := hb
  have hp0 := fun o => hp.kept (World.grownBy_alloc w o none) (by simp)
  have hG0 := fun o => hG.kept (World.grownBy_alloc w o (some b))
  have hN0 : C3 200 w.heap.size (.bool false) (.int .i64 0) (.slice none 0 0) (w.alloc (.cells #[.bool false, .int .i64 0, .slice none 0 0] 200)) := heap_alloc_new _ _
  have hlt := hp.lt
  have hp1 := Sv.byte_pos _ _ 40 (by decide) h
  rw [size_list] at hp1
  go_enter Tryz.func157, Tryz.ntmps157
  go_wp2_with (go_at_call 126; refine (expect_yes b s i v 40 _ rfl _ hi hs h (hp0 _)).mono ?_; rintro e w1 ⟨rfl, hb1, hg1⟩)
  refine (kind_no b s _ v w1 tT aT _ hp1 hs h2 hb1 ((hG0 _).kept hg1)).mono ?_
  rintro e w2 ⟨y, rfl, ff, rfl, hf, hF, hg2⟩
  have hN1 := hN0.kept hg1 (by simp; omega)
  have hN2 := hN1.kept hg2 (by simp; omega)
  obtain ⟨d0, d1, d2⟩ := hN2.c
  have z0 := hN2.fz 0
  have z1 := hN2.fz 1
  have z2 := hN2.fz 2
  have hbad := bad_fin3 hf hF hg2 (gr_trans (World.grownBy_alloc w _ (some b)) hg1) hN1.lt (Nat.le_refl _) (.bool false) (.int .i64 0) (.slice none 0 0)
  clear hf hF hg1 hg2
  go_wp2
  obtain ⟨q0, q1, q2⟩ := (hN2.set3 (.bool false) (.int .i64 0) (.slice none 0 0)).c
  exact bodyPost_ret (v := .tuple #[.agg #[.bool false, .int .i64 0, .slice none 0 0], .iface 112 (.pointer (some ⟨ff, 0, none⟩))]) (by simp [results, Tryz.results157, go_sem, q0, q1, q2]) rfl ⟨_, rfl, hbad⟩

set_option maxHeartbeats 400000 in
theorem cond_yes (b : Nat) (s : ByteArray) (i : Nat) (f : Bool) (tT : TypeId) (aT : Addr) (tL : TypeId) (aL : Addr) (w : World) (hi : i ≤ s.size) (hs : s.size ≤ 400)
    (hb : St b s i f (.iface tT (.pointer (some aT))) (.iface tL (.pointer (some aL))) w) (h : (Sv.pk s.data.toList (Sv.sk s.data.toList i) == 40) = true) (h2 : Sv.digB (Sv.pk s.data.toList (Sv.sk s.data.toList (Sv.sk s.data.toList i + 1))) = true) (r : Nat ⊕ (Sv.Cond × Nat)) (hR : (match Sv.terms s.data.toList (Sv.sk s.data.toList (Sv.sk s.data.toList i + 1) + 1) with
      | .inl m => .inl m
      | .inr (ts, m) => .inr (⟨false, (Sv.pk s.data.toList (Sv.sk s.data.toList (Sv.sk s.data.toList i + 1))).toNat - 48, ts⟩, m)) = r) :
    Calls Tryz.prog 157 #[.pointer (some ⟨b, 0, none⟩)] w fun e w' => CondPost b s f (.iface tT (.pointer (some aT))) (.iface tL (.pointer (some aL))) w r e w' := by
  have HR := hide hR
  clear hR
  obtain ⟨hbT, hbL, hbB⟩ := hb.base
  obtain ⟨v, hp, hex, hG⟩ := hb
  have hp0 := fun o => hp.kept (World.grownBy_alloc w o none) (by simp)
  have hG0 := fun o => hG.kept (World.grownBy_alloc w o (some b))
  have hex0 := fun o => hex.kept (World.grownBy_alloc w o (some b))
  have hN0 : C3 200 w.heap.size (.bool false) (.int .i64 0) (.slice none 0 0) (w.alloc (.cells #[.bool false, .int .i64 0, .slice none 0 0] 200)) := heap_alloc_new _ _
  have hlt := hp.lt
  have hp1 := Sv.byte_pos _ _ 40 (by decide) h
  rw [size_list] at hp1
  have hp2 := Sv.dig_pos _ _ h2
  rw [size_list] at hp2
  have hrng := Sv.dig_rng _ h2
  go_enter Tryz.func157, Tryz.ntmps157
  go_wp2_with (go_at_call 126; refine (expect_yes b s i v 40 _ rfl _ hi hs h (hp0 _)).mono ?_; rintro e w1 ⟨rfl, hb1, hg1⟩)
  refine (kind_yes b s _ v w1 hp1 hs h2 hb1).mono ?_
  rintro e w2 ⟨rfl, hb2, hg2⟩
  have hN1 := hN0.kept hg1 (by simp; omega)
  have hN2 := hN1.kept hg2 (by simp; omega)
  have hg02 := gr_trans (gr_trans (World.grownBy_alloc w _ (some b)) hg1) hg2
  have hst2 := St.step hb2 ((hex0 _).kept hg1) ((hG0 _).kept hg1) hg2
  have HR2 := unhide HR
  clear HR
  generalize Sv.pk s.data.toList (Sv.sk s.data.toList (Sv.sk s.data.toList i + 1)) = ck at *
  have HR := hide HR2
  clear hb1 hg1 hb2 hg2 hN1 hN0 hp0 hG0 hex0 hp hex hG HR2
  go_wp2_with fail
  refine (terms_w b s _ _ tT aT tL aL w2 hp2 hs hst2).mono ?_
  intro e w3 hpost
  cases hr : Sv.terms s.data.toList (Sv.sk s.data.toList (Sv.sk s.data.toList i + 1) + 1) with
  | inl m =>
    have hRR := unhide HR
    rw [hr] at hpost hRR
    subst hRR
    obtain ⟨y, rfl, ff, rfl, hf, hF, hg3⟩ := hpost
    have hN3 := hN2.kept hg3 (by simp; omega)
    obtain ⟨d0, d1, d2⟩ := hN3.c
    have z0 := hN3.fz 0
    have z1 := hN3.fz 1
    have z2 := hN3.fz 2
    have hbad := bad_fin3 hf hF hg3 hg02 hN2.lt (Nat.le_refl _) (.bool false) (.int .i64 0) (.slice none 0 0)
    clear hf hF hg3 hr hst2
    go_wp2
    obtain ⟨q0, q1, q2⟩ := (hN3.set3 (.bool false) (.int .i64 0) (.slice none 0 0)).c
    exact bodyPost_ret (v := .tuple #[.agg #[.bool false, .int .i64 0, .slice none 0 0], .iface 112 (.pointer (some ⟨ff, 0, none⟩))]) (by simp [results, Tryz.results157, go_sem, q0, q1, q2]) rfl ⟨_, rfl, hbad⟩
  | inr q =>
    obtain ⟨ts, m⟩ := q
    have hRR := unhide HR
    rw [hr] at hpost hRR
    subst hRR
    obtain ⟨u, rfl, hts, hst3, hg3⟩ := hpost
    obtain ⟨ao, cap, rfl⟩ := hts.slice
    have hN3 := hN2.kept hg3 (by simp; omega)
    obtain ⟨d0, d1, d2⟩ := hN3.c
    have z0 := hN3.fz 0
    have z1 := hN3.fz 1
    have z2 := hN3.fz 2
    have hg03 := gr_trans hg02 hg3
    clear hr hst2 hg3
    go_wp2
    obtain ⟨q0, q1, q2⟩ := (hN3.set3 (.bool false) (.int .i64 ((ck.toNat : Int) - 48)) (.slice ao ts.length cap)).c
    have k3 := gr_set3 w3 w.heap.size (.bool false) (.int .i64 ((ck.toNat : Int) - 48)) (.slice ao ts.length cap)
    refine bodyPost_ret (v := .tuple #[.agg #[.bool false, .int .i64 ((ck.toNat : Int) - 48), .slice ao ts.length cap], .nilIface]) (by simp [results, Tryz.results157, go_sem, q0, q1, q2]) rfl ⟨.slice ao ts.length cap, ?_, ?_, ?_, ?_⟩
    · rw [show (((⟨false, ck.toNat - 48, ts⟩ : Sv.Cond).kind : Nat) : Int) = (ck.toNat : Int) - 48 from by show ((ck.toNat - 48 : Nat) : Int) = _; omega]
    · exact own_weak (own_kept hts k3 hN3 (by decide)) (by have := hg02.size; omega)
    · exact hst3.row k3 (RowOk.one hN3 (Nat.le_refl _)) (by decide) (by decide) hbT hbL
    · exact gr_own hg03 k3 (Nat.le_refl _)

theorem cond_w (b : Nat) (s : ByteArray) (i : Nat) (f : Bool) (tT : TypeId) (aT : Addr) (tL : TypeId) (aL : Addr) (w : World) (hi : i ≤ s.size) (hs : s.size ≤ 400)
    (hb : St b s i f (.iface tT (.pointer (some aT))) (.iface tL (.pointer (some aL))) w) :
    Calls Tryz.prog 157 #[.pointer (some ⟨b, 0, none⟩)] w fun e w' => CondPost b s f (.iface tT (.pointer (some aT))) (.iface tL (.pointer (some aL))) w (Sv.cond s.data.toList i) e w' := by
  cases h : Sv.pk s.data.toList (Sv.sk s.data.toList i) == 40
  · have e : Sv.cond s.data.toList i = .inl (Sv.sk s.data.toList i) := by unfold Sv.cond; rw [h]; rfl
    rw [e]
    exact cond_no1 b s i f tT aT tL aL w hi hs hb h
  · cases h2 : Sv.digB (Sv.pk s.data.toList (Sv.sk s.data.toList (Sv.sk s.data.toList i + 1)))
    · have e : Sv.cond s.data.toList i = .inl (Sv.sk s.data.toList (Sv.sk s.data.toList i + 1)) := by unfold Sv.cond; simp only; rw [h, if_pos rfl, h2]; rfl
      rw [e]
      exact cond_no2 b s i f tT aT tL aL w hi hs hb h h2
    · refine cond_yes b s i f tT aT tL aL w hi hs hb h h2 _ ?_
      unfold Sv.cond
      simp only
      rw [h, if_pos rfl, h2, if_pos rfl]
      cases Sv.terms s.data.toList (Sv.sk s.data.toList (Sv.sk s.data.toList i + 1) + 1) <;> rfl

end Go.Proofs.YtolhbeekfjnfmaaGreatDoor

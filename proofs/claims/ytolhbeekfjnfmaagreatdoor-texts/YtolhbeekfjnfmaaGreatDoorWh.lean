/- The reader's rules. -/
import Derived.Test.YtolhbeekfjnfmaaGreatDoorWg
namespace Go.Proofs.YtolhbeekfjnfmaaGreatDoor
open Go.RowKit

/-- Two cells of a call's own. -/
def C2 (T : TypeId) (N : Nat) (x y : Value) (w : World) : Prop := w.heap[N]? = some (.cells #[x, y] T (0, 0))
theorem C2.lt {T : TypeId} {N : Nat} {x y : Value} {w : World} (h : C2 T N x y w) : N < w.heap.size := (Array.getElem?_eq_some_iff.1 h).1
theorem C2.kept {T : TypeId} {N : Nat} {x y : Value} {w w' : World} {row : Option Nat} (h : C2 T N x y w) (g : w.grownBy w' row) (hne : some N ≠ row) : C2 T N x y w' := by
  unfold C2; rw [g.block N h.lt hne]; exact h
theorem C2.c {T : TypeId} {N : Nat} {x y : Value} {w : World} (h : C2 T N x y w) : w.cell? ⟨N, 0, none⟩ = some x ∧ w.cell? ⟨N, 1, none⟩ = some y := by
  unfold C2 at h; simp [World.cell?, h]
theorem C2.fz {T : TypeId} {N : Nat} {x y : Value} {w : World} (h : C2 T N x y w) (o : Nat) : w.frozen? ⟨N, o, none⟩ = false := by
  unfold C2 at h; simp [World.frozen?, h]
theorem C2.set2 {T : TypeId} {N : Nat} {a b : Value} {w : World} (h : C2 T N a b w) (x y : Value) : C2 T N x y ((w.setCell ⟨N, 0, none⟩ x).setCell ⟨N, 1, none⟩ y) := by
  unfold C2 at h ⊢
  have h1 := heap_setCell_same w N 0 _ _ x h
  have h2 := heap_setCell_same _ N 1 _ _ y h1
  rw [h2]; rfl
theorem gr_set2 (w : World) (N : Nat) (x y : Value) : w.grownBy ((w.setCell ⟨N, 0, none⟩ x).setCell ⟨N, 1, none⟩ y) (some N) :=
  gr_trans (gr_set w N 0 x) (gr_set _ N 1 y)
theorem RowOk.one2 {T : TypeId} {N base : Nat} {x y : Value} {w : World} (h : C2 T N x y w) (hb : base ≤ N) : RowOk base T (some N) w := by
  intro g hg
  cases hg
  exact ⟨hb, _, _, h⟩
/-- A fault that comes up through a call with two cells of its own. -/
theorem bad_fin2 {b k f : Nat} {eT : Value} {w W0 W : World} {N : Nat} (hf : W0.heap.size ≤ f) (hF : FAt f k eT W) (hg : W0.grownBy W (some b)) (hg0 : w.grownBy W0 (some b)) (hlt : N < W0.heap.size) (hN : w.heap.size ≤ N) (x y : Value) :
    Bad b k eT w (.iface 112 (.pointer (some ⟨f, 0, none⟩))) ((W.setCell ⟨N, 0, none⟩ x).setCell ⟨N, 1, none⟩ y) :=
  ⟨f, rfl, Nat.le_trans hg0.size hf, hF.kept (gr_set2 W N x y) (by simp; omega), gr_own (gr_trans hg0 hg) (gr_set2 W N x y) hN⟩

/-- What the reader of a rule comes to. -/
def RulePost (b : Nat) (s : ByteArray) (f : Bool) (eT eL : Value) (w : World) (r : Nat ⊕ (Sv.Rule × Nat)) (e : Ending) (w' : World) : Prop :=
  match r with
  | .inl k => ∃ y, e = .returned (.tuple #[.agg #[.string ⟨#[]⟩, .slice none 0 0], y]) ∧ Bad b k eT w y w'
  | .inr (q, j) => ∃ u, e = .returned (.tuple #[.agg #[.string ⟨q.name.toArray⟩, u], .nilIface]) ∧ CsAt w.heap.size u q.conds w' ∧ St b s j (f || Sv.exR q) eT eL w' ∧ w.grownBy w' (some b)

set_option maxHeartbeats 400000 in
theorem rule_no1 (b : Nat) (s : ByteArray) (i : Nat) (f : Bool) (tT : TypeId) (aT : Addr) (tL : TypeId) (aL : Addr) (w : World) (hi : i ≤ s.size) (hs : s.size ≤ 400)
    (hb : St b s i f (.iface tT (.pointer (some aT))) (.iface tL (.pointer (some aL))) w) (h : Sv.nmF 8 s.data.toList i = i) :
    Calls Tryz.prog 90 #[.pointer (some ⟨b, 0, none⟩)] w fun e w' => ∃ y, e = .returned (.tuple #[.agg #[.string ⟨#[]⟩, .slice none 0 0], y]) ∧ Bad b i (.iface tT (.pointer (some aT))) w y w' := by
  obtain ⟨v, hp, hex, hG⟩ := hb
  have hp0 := fun o => hp.kept (World.grownBy_alloc w o none) (by simp)
  have hG0 := fun o => hG.kept (World.grownBy_alloc w o (some b))
  have hN0 : C2 128 w.heap.size (.string ⟨#[]⟩) (.slice none 0 0) (w.alloc (.cells #[.string ⟨#[]⟩, .slice none 0 0] 128)) := heap_alloc_new _ _
  have hlt := hp.lt
  have HH := hide h
  clear h
  go_enter Tryz.func90, Tryz.ntmps90
  go_wp2_with fail
  refine (name_no b s i v _ tT aT _ hi hs (unhide HH) (hp0 _) (hG0 _)).mono ?_
  rintro e w1 ⟨y, rfl, ff, rfl, hf, hF, hg⟩
  have hN1 := hN0.kept hg (by simp; omega)
  obtain ⟨d0, d1⟩ := hN1.c
  have z0 := hN1.fz 0
  have z1 := hN1.fz 1
  have hbad := bad_fin2 hf hF hg (World.grownBy_alloc w _ (some b)) hN0.lt (Nat.le_refl _) (.string ⟨#[]⟩) (.slice none 0 0)
  clear hf hF hg
  go_wp2
  obtain ⟨q0, q1⟩ := (hN1.set2 (.string ⟨#[]⟩) (.slice none 0 0)).c
  exact bodyPost_ret (v := .tuple #[.agg #[.string ⟨#[]⟩, .slice none 0 0], .iface 112 (.pointer (some ⟨ff, 0, none⟩))]) (by simp [results, Tryz.results90, go_sem, q0, q1]) rfl ⟨_, rfl, hbad⟩

set_option maxHeartbeats 400000 in
theorem rule_no2 (b : Nat) (s : ByteArray) (i : Nat) (f : Bool) (tT : TypeId) (aT : Addr) (tL : TypeId) (aL : Addr) (w : World) (hi : i ≤ s.size) (hs : s.size ≤ 400)
    (hb : St b s i f (.iface tT (.pointer (some aT))) (.iface tL (.pointer (some aL))) w) (h : Sv.nmF 8 s.data.toList i ≠ i) (h2 : (Sv.pk s.data.toList (Sv.sk s.data.toList (Sv.nmF 8 s.data.toList i)) == 58) = false) :
    Calls Tryz.prog 90 #[.pointer (some ⟨b, 0, none⟩)] w fun e w' => ∃ y, e = .returned (.tuple #[.agg #[.string ⟨#[]⟩, .slice none 0 0], y]) ∧ Bad b (Sv.sk s.data.toList (Sv.nmF 8 s.data.toList i)) (.iface tT (.pointer (some aT))) w y w' := by
  obtain ⟨v, hp, hex, hG⟩ := hb
  have hp0 := fun o => hp.kept (World.grownBy_alloc w o none) (by simp)
  have hG0 := fun o => hG.kept (World.grownBy_alloc w o (some b))
  have hN0 : C2 128 w.heap.size (.string ⟨#[]⟩) (.slice none 0 0) (w.alloc (.cells #[.string ⟨#[]⟩, .slice none 0 0] 128)) := heap_alloc_new _ _
  have hlt := hp.lt
  have hnl := Sv.nmF_le 8 s.data.toList i (by simpa using hi)
  rw [size_list] at hnl
  go_enter Tryz.func90, Tryz.ntmps90
  go_wp2_with (go_at_call 125; refine (name_yes b s i v _ hi hs h (hp0 _)).mono ?_; rintro e w1 ⟨rfl, hb1, hg1⟩)
  refine (expect_no b s _ v 58 _ rfl w1 tT aT _ hnl.2.1 hs h2 hb1 ((hG0 _).kept hg1)).mono ?_
  rintro e w2 ⟨y, rfl, ff, rfl, hf, hF, hg2⟩
  have hN1 := hN0.kept hg1 (by simp; omega)
  have hN2 := hN1.kept hg2 (by simp; omega)
  obtain ⟨d0, d1⟩ := hN2.c
  have z0 := hN2.fz 0
  have z1 := hN2.fz 1
  have hbad := bad_fin2 hf hF hg2 (gr_trans (World.grownBy_alloc w _ (some b)) hg1) hN1.lt (Nat.le_refl _) (.string ⟨#[]⟩) (.slice none 0 0)
  clear hf hF hg1 hg2
  go_wp2
  obtain ⟨q0, q1⟩ := (hN2.set2 (.string ⟨#[]⟩) (.slice none 0 0)).c
  exact bodyPost_ret (v := .tuple #[.agg #[.string ⟨#[]⟩, .slice none 0 0], .iface 112 (.pointer (some ⟨ff, 0, none⟩))]) (by simp [results, Tryz.results90, go_sem, q0, q1]) rfl ⟨_, rfl, hbad⟩

set_option maxHeartbeats 400000 in
theorem rule_yes (b : Nat) (s : ByteArray) (i : Nat) (f : Bool) (tT : TypeId) (aT : Addr) (tL : TypeId) (aL : Addr) (w : World) (hi : i ≤ s.size) (hs : s.size ≤ 400)
    (hb : St b s i f (.iface tT (.pointer (some aT))) (.iface tL (.pointer (some aL))) w) (h : Sv.nmF 8 s.data.toList i ≠ i) (h2 : (Sv.pk s.data.toList (Sv.sk s.data.toList (Sv.nmF 8 s.data.toList i)) == 58) = true) (r : Nat ⊕ (Sv.Rule × Nat)) (hR : (match Sv.conds s.data.toList (Sv.sk s.data.toList (Sv.nmF 8 s.data.toList i) + 1) with
      | .inl m => .inl m
      | .inr (cs, m) => .inr (⟨Sv.cut s.data.toList i (Sv.nmF 8 s.data.toList i), cs⟩, m)) = r) :
    Calls Tryz.prog 90 #[.pointer (some ⟨b, 0, none⟩)] w fun e w' => RulePost b s f (.iface tT (.pointer (some aT))) (.iface tL (.pointer (some aL))) w r e w' := by
  have HR := hide hR
  clear hR
  obtain ⟨hbT, hbL, hbB⟩ := hb.base
  obtain ⟨v, hp, hex, hG⟩ := hb
  have hp0 := fun o => hp.kept (World.grownBy_alloc w o none) (by simp)
  have hG0 := fun o => hG.kept (World.grownBy_alloc w o (some b))
  have hex0 := fun o => hex.kept (World.grownBy_alloc w o (some b))
  have hN0 : C2 128 w.heap.size (.string ⟨#[]⟩) (.slice none 0 0) (w.alloc (.cells #[.string ⟨#[]⟩, .slice none 0 0] 128)) := heap_alloc_new _ _
  have hlt := hp.lt
  have hnl := Sv.nmF_le 8 s.data.toList i (by simpa using hi)
  rw [size_list] at hnl
  have hp1 := Sv.byte_pos _ _ 58 (by decide) h2
  rw [size_list] at hp1
  go_enter Tryz.func90, Tryz.ntmps90
  go_wp2_with (go_at_call 125; refine (name_yes b s i v _ hi hs h (hp0 _)).mono ?_; rintro e w1 ⟨rfl, hb1, hg1⟩)
  refine (expect_yes b s _ v 58 _ rfl w1 hnl.2.1 hs h2 hb1).mono ?_
  rintro e w2 ⟨rfl, hb2, hg2⟩
  have hN1 := hN0.kept hg1 (by simp; omega)
  have hN2 := hN1.kept hg2 (by simp; omega)
  have hg02 := gr_trans (gr_trans (World.grownBy_alloc w _ (some b)) hg1) hg2
  have hst2 := St.step hb2 ((hex0 _).kept hg1) ((hG0 _).kept hg1) hg2
  have HR2 := unhide HR
  clear HR
  generalize Sv.cut s.data.toList i (Sv.nmF 8 s.data.toList i) = nm at *
  have HR := hide HR2
  clear hb1 hg1 hb2 hg2 hN1 hN0 hp0 hG0 hex0 hp hex hG HR2
  go_wp2_with fail
  refine (conds_w b s _ _ tT aT tL aL w2 hp1 hs hst2).mono ?_
  intro e w3 hpost
  cases hr : Sv.conds s.data.toList (Sv.sk s.data.toList (Sv.nmF 8 s.data.toList i) + 1) with
  | inl m =>
    have hRR := unhide HR
    rw [hr] at hpost hRR
    subst hRR
    obtain ⟨y, rfl, ff, rfl, hf, hF, hg3⟩ := hpost
    have hN3 := hN2.kept hg3 (by simp; omega)
    obtain ⟨d0, d1⟩ := hN3.c
    have z0 := hN3.fz 0
    have z1 := hN3.fz 1
    have hbad := bad_fin2 hf hF hg3 hg02 hN2.lt (Nat.le_refl _) (.string ⟨#[]⟩) (.slice none 0 0)
    clear hf hF hg3 hr hst2
    go_wp2
    obtain ⟨q0, q1⟩ := (hN3.set2 (.string ⟨#[]⟩) (.slice none 0 0)).c
    exact bodyPost_ret (v := .tuple #[.agg #[.string ⟨#[]⟩, .slice none 0 0], .iface 112 (.pointer (some ⟨ff, 0, none⟩))]) (by simp [results, Tryz.results90, go_sem, q0, q1]) rfl ⟨_, rfl, hbad⟩
  | inr q =>
    obtain ⟨cs, m⟩ := q
    have hRR := unhide HR
    rw [hr] at hpost hRR
    subst hRR
    obtain ⟨u, rfl, hcs, hst3, hg3⟩ := hpost
    obtain ⟨ao, cap, rfl⟩ := hcs.slice
    have hN3 := hN2.kept hg3 (by simp; omega)
    obtain ⟨d0, d1⟩ := hN3.c
    have z0 := hN3.fz 0
    have z1 := hN3.fz 1
    have hg03 := gr_trans hg02 hg3
    clear hr hst2 hg3
    go_wp2
    obtain ⟨q0, q1⟩ := (hN3.set2 (.string ⟨nm.toArray⟩) (.slice ao cs.length cap)).c
    have k3 := gr_set2 w3 w.heap.size (.string ⟨nm.toArray⟩) (.slice ao cs.length cap)
    refine bodyPost_ret (v := .tuple #[.agg #[.string ⟨nm.toArray⟩, .slice ao cs.length cap], .nilIface]) (by simp [results, Tryz.results90, go_sem, q0, q1]) rfl ⟨.slice ao cs.length cap, rfl, ?_, ?_, ?_⟩
    · obtain ⟨xs, h1, h3⟩ := hcs.row k3 (RowOk.one2 hN3 (Nat.le_refl _)) (by decide) (by decide)
      have hle : w.heap.size ≤ w2.heap.size := by have := hg02.size; omega
      exact ⟨xs, own_weak h1 hle, CsCells.weak hle _ xs h3⟩
    · exact hst3.row k3 (RowOk.one2 hN3 (Nat.le_refl _)) (by decide) (by decide) hbT hbL
    · exact gr_own hg03 k3 (Nat.le_refl _)

theorem rule_w (b : Nat) (s : ByteArray) (i : Nat) (f : Bool) (tT : TypeId) (aT : Addr) (tL : TypeId) (aL : Addr) (w : World) (hi : i ≤ s.size) (hs : s.size ≤ 400)
    (hb : St b s i f (.iface tT (.pointer (some aT))) (.iface tL (.pointer (some aL))) w) :
    Calls Tryz.prog 90 #[.pointer (some ⟨b, 0, none⟩)] w fun e w' => RulePost b s f (.iface tT (.pointer (some aT))) (.iface tL (.pointer (some aL))) w (Sv.rule s.data.toList i) e w' := by
  by_cases h : Sv.nmF 8 s.data.toList i = i
  · have e : Sv.rule s.data.toList i = .inl i := by unfold Sv.rule; simp only; rw [if_pos h]
    rw [e]
    exact rule_no1 b s i f tT aT tL aL w hi hs hb h
  · cases h2 : Sv.pk s.data.toList (Sv.sk s.data.toList (Sv.nmF 8 s.data.toList i)) == 58
    · have e : Sv.rule s.data.toList i = .inl (Sv.sk s.data.toList (Sv.nmF 8 s.data.toList i)) := by unfold Sv.rule; simp only; rw [if_neg h, h2]; rfl
      rw [e]
      exact rule_no2 b s i f tT aT tL aL w hi hs hb h h2
    · refine rule_yes b s i f tT aT tL aL w hi hs hb h h2 _ ?_
      unfold Sv.rule
      simp only
      rw [if_neg h, h2, if_pos rfl]
      cases Sv.conds s.data.toList (Sv.sk s.data.toList (Sv.nmF 8 s.data.toList i) + 1) <;> rfl

end Go.Proofs.YtolhbeekfjnfmaaGreatDoor

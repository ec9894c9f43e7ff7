/- What terms a text can hold. -/
import Derived.Test.YtolhbeekfjnfmaaGreatDoorVg
namespace Go.Proofs.YtolhbeekfjnfmaaGreatDoor
open Go.RowKit

/-- Anything; a variable, which has a letter; a number, which has none. -/
def Sv.tSh (t : Sv.Term) : Prop := t.sort = 0 ∨ (t.sort = 1 ∧ 0 < t.letter.toNat) ∨ (t.sort = 2 ∧ t.letter = 0)
def Sv.cSh (c : Sv.Cond) : Prop := c.kind ≤ 9 ∧ ∀ t ∈ c.terms, Sv.tSh t
def Sv.rShO (q : Sv.Rule) : Prop := ∀ c ∈ q.conds, Sv.cSh c
theorem Sv.term_tSh (l : List UInt8) (i : Nat) (t : Sv.Term) (j : Nat) (h : Sv.term l i = .inr (t, j)) : Sv.tSh t := by
  unfold Sv.term at h
  split at h
  · simp only [Sum.inr.injEq, Prod.mk.injEq] at h
    obtain ⟨rfl, _⟩ := h
    exact .inl rfl
  · split at h
    · rename_i hl
      simp only [Sum.inr.injEq, Prod.mk.injEq] at h
      obtain ⟨rfl, _⟩ := h
      exact .inr (.inl ⟨rfl, by have := Sv.let_rng _ hl; show 0 < (Sv.pk l i).toNat; omega⟩)
    · split at h
      · have h3 := (Sv.number_shape _ _ _ _ h).1
        exact .inr (.inr ⟨by rw [h3], by rw [h3]⟩)
      · cases h
theorem Sv.tmF_tSh (n : Nat) (l : List UInt8) (acc : List Sv.Term) (i : Nat) (ts : List Sv.Term) (j : Nat) (h : Sv.tmF n l acc i = .inr (ts, j)) (ha : ∀ t ∈ acc, Sv.tSh t) : ∀ t ∈ ts, Sv.tSh t := by
  induction n generalizing acc i with
  | zero => cases h
  | succ n ih =>
    rw [Sv.tmF_step] at h
    split at h
    · simp only [Sum.inr.injEq, Prod.mk.injEq] at h
      rw [← h.1]; exact ha
    · cases hr : Sv.term l (Sv.sk l i) with
      | inl k => rw [hr] at h; cases h
      | inr p =>
        obtain ⟨t, k⟩ := p
        rw [hr] at h
        refine ih (acc ++ [t]) k h ?_
        intro x hx
        rcases List.mem_append.1 hx with hx | hx
        · exact ha x hx
        · rw [List.mem_singleton] at hx
          rw [hx]
          exact Sv.term_tSh l _ t k hr
theorem Sv.cond_cSh (l : List UInt8) (i : Nat) (c : Sv.Cond) (j : Nat) (h : Sv.cond l i = .inr (c, j)) : Sv.cSh c := by
  unfold Sv.cond at h
  simp only at h
  split at h
  · split at h
    · rename_i hd
      have hr := Sv.dig_rng _ hd
      cases ht : Sv.terms l (Sv.sk l (Sv.sk l i + 1) + 1) with
      | inl m => rw [ht] at h; cases h
      | inr p =>
        obtain ⟨ts, m⟩ := p
        rw [ht] at h
        simp only [Sum.inr.injEq, Prod.mk.injEq] at h
        obtain ⟨rfl, _⟩ := h
        refine ⟨?_, Sv.tmF_tSh _ l [] _ ts m ht (by simp)⟩
        show (Sv.pk l (Sv.sk l (Sv.sk l i + 1))).toNat - 48 ≤ 9
        omega
    · cases h
  · cases h
theorem Sv.cdF_cSh (n : Nat) (l : List UInt8) (acc : List Sv.Cond) (i : Nat) (cs : List Sv.Cond) (j : Nat) (h : Sv.cdF n l acc i = .inr (cs, j)) (ha : ∀ c ∈ acc, Sv.cSh c) : ∀ c ∈ cs, Sv.cSh c := by
  induction n generalizing acc i with
  | zero => cases h
  | succ n ih =>
    rw [Sv.cdF_step] at h
    split at h
    · simp only [Sum.inr.injEq, Prod.mk.injEq] at h
      rw [← h.1]; exact ha
    · generalize (if (Sv.pk l (Sv.sk l i) == 33) = true then Sv.sk l i + 1 else Sv.sk l i) = x at h
      cases hr : Sv.cond l x with
      | inl k => rw [hr] at h; cases h
      | inr p =>
        obtain ⟨c, k⟩ := p
        rw [hr] at h
        refine ih _ k h ?_
        intro y hy
        rcases List.mem_append.1 hy with hy | hy
        · exact ha y hy
        · rw [List.mem_singleton] at hy
          rw [hy]
          exact Sv.cond_cSh l x c k hr
theorem Sv.conds_cSh (l : List UInt8) (i : Nat) (cs : List Sv.Cond) (j : Nat) (h : Sv.conds l i = .inr (cs, j)) : ∀ c ∈ cs, Sv.cSh c := by
  unfold Sv.conds at h
  cases hr : Sv.cond l i with
  | inl k => rw [hr] at h; cases h
  | inr p =>
    obtain ⟨c, k⟩ := p
    rw [hr] at h
    refine Sv.cdF_cSh _ l [c] k cs j h ?_
    intro y hy
    rw [List.mem_singleton] at hy
    rw [hy]
    exact Sv.cond_cSh l i c k hr
def Sv.rSh (q : Sv.Rule) : Prop := Sv.rShO q ∧ q.name.length ≤ 8
theorem Sv.rule_rSh (l : List UInt8) (i : Nat) (hi : i ≤ l.length) (q : Sv.Rule) (j : Nat) (h : Sv.rule l i = .inr (q, j)) : Sv.rSh q := by
  have hn := Sv.nmF_le 8 l i hi
  unfold Sv.rule at h
  simp only at h
  split at h
  · cases h
  · split at h
    · cases hr : Sv.conds l (Sv.sk l (Sv.nmF 8 l i) + 1) with
      | inl m => rw [hr] at h; cases h
      | inr p =>
        obtain ⟨cs, m⟩ := p
        rw [hr] at h
        simp only [Sum.inr.injEq, Prod.mk.injEq] at h
        obtain ⟨rfl, _⟩ := h
        refine ⟨Sv.conds_cSh l _ cs m hr, ?_⟩
        simp
        omega
    · cases h
theorem Sv.rlF_rSh (n : Nat) (l : List UInt8) (acc : List Sv.Rule) (i : Nat) (rs : List Sv.Rule) (h : Sv.rlF n l acc i = .inr rs) (ha : ∀ q ∈ acc, Sv.rSh q) : ∀ q ∈ rs, Sv.rSh q := by
  induction n generalizing acc i with
  | zero => cases h
  | succ n ih =>
    rw [Sv.rlF_step] at h
    split at h
    · rename_i hlt
      cases hr : Sv.rule l i with
      | inl k => rw [hr] at h; cases h
      | inr p =>
        obtain ⟨q, k⟩ := p
        rw [hr] at h
        refine ih _ (Sv.sk l k) h ?_
        intro y hy
        rcases List.mem_append.1 hy with hy | hy
        · exact ha y hy
        · rw [List.mem_singleton] at hy
          rw [hy]
          exact Sv.rule_rSh l i (by omega) q k hr
    · simp only [Sum.inr.injEq] at h
      rw [← h]; exact ha
theorem Sv.rules_rSh (l : List UInt8) (rs : List Sv.Rule) (h : Sv.rules l = .inr rs) : ∀ q ∈ rs, Sv.rSh q := Sv.rlF_rSh _ l [] _ rs h (by simp)


end Go.Proofs.YtolhbeekfjnfmaaGreatDoor

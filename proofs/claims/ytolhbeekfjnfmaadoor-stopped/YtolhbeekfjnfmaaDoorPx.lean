/- Where a text is wrong hangs on what stands up to there alone. -/
import Derived.Test.YtolhbeekfjnfmaaDoorWp
namespace Go.Proofs.YtolhbeekfjnfmaaDoor

/-- Where a step has come to. -/
def Sv.pos {α : Type} : Nat ⊕ (α × Nat) → Nat
  | .inl k => k
  | .inr (_, j) => j

theorem Sv.number_lo (l : List UInt8) (i : Nat) : i ≤ Sv.pos (Sv.number l i) := by
  unfold Sv.number
  simp only
  generalize hx : (if (Sv.pk l i == 45) = true then i + 1 else i) = x
  have h1 : i ≤ x := by rw [← hx]; split <;> omega
  split
  · exact h1
  · show i ≤ (Sv.ndF 9 l 0 x).2
    rcases Nat.lt_or_ge l.length x with hl | hl
    · have : Sv.ndF 9 l 0 x = (0, x) := by
        rw [show (9 : Nat) = 8 + 1 from rfl, Sv.ndF_step, Sv.pk_end l x (by omega)]
        rfl
      rw [this]; exact h1
    · have := Sv.ndF_le 9 l 0 x hl; omega
theorem Sv.term_lo (l : List UInt8) (i : Nat) : i ≤ Sv.pos (Sv.term l i) := by
  unfold Sv.term
  split
  · simp [Sv.pos]
  · split
    · simp [Sv.pos]
    · split
      · exact Sv.number_lo l i
      · exact Nat.le_refl _
theorem Sv.sk_ge (l : List UInt8) (i : Nat) : i ≤ Sv.sk l i := by unfold Sv.sk; omega
theorem Sv.tmF_lo (n : Nat) (l : List UInt8) (acc : List Sv.Term) (i : Nat) : i ≤ Sv.pos (Sv.tmF n l acc i) := by
  induction n generalizing acc i with
  | zero => exact Nat.le_refl _
  | succ n ih =>
    rw [Sv.tmF_step]
    have hs := Sv.sk_ge l i
    split
    · show i ≤ Sv.sk l i + 1; omega
    · have ht := Sv.term_lo l (Sv.sk l i)
      cases hr : Sv.term l (Sv.sk l i) with
      | inl k => rw [hr] at ht; exact Nat.le_trans hs ht
      | inr p =>
        obtain ⟨t, j⟩ := p
        rw [hr] at ht
        have := ih (acc ++ [t]) j
        have h2 : Sv.sk l i ≤ j := ht
        show i ≤ Sv.pos (Sv.tmF n l (acc ++ [t]) j)
        omega
theorem Sv.cond_lo (l : List UInt8) (i : Nat) : i ≤ Sv.pos (Sv.cond l i) := by
  have hs := Sv.sk_ge l i
  have hs2 := Sv.sk_ge l (Sv.sk l i + 1)
  unfold Sv.cond
  split
  · simp only
    split
    · have ht := Sv.tmF_lo (l.length + 1) l [] (Sv.sk l (Sv.sk l i + 1) + 1)
      cases hr : Sv.terms l (Sv.sk l (Sv.sk l i + 1) + 1) with
      | inl k =>
        have h2 : Sv.sk l (Sv.sk l i + 1) + 1 ≤ k := by unfold Sv.terms at hr; rw [hr] at ht; exact ht
        show i ≤ k; omega
      | inr q =>
        have h2 : Sv.sk l (Sv.sk l i + 1) + 1 ≤ q.2 := by unfold Sv.terms at hr; rw [hr] at ht; exact ht
        show i ≤ q.2; omega
    · show i ≤ Sv.sk l (Sv.sk l i + 1); omega
  · exact hs
theorem Sv.cdF_lo (n : Nat) (l : List UInt8) (acc : List Sv.Cond) (i : Nat) : i ≤ Sv.pos (Sv.cdF n l acc i) := by
  induction n generalizing acc i with
  | zero => exact Nat.le_refl _
  | succ n ih =>
    rw [Sv.cdF_step]
    have hs := Sv.sk_ge l i
    split
    · show i ≤ Sv.sk l i + 1; omega
    · have hx : Sv.sk l i ≤ (if (Sv.pk l (Sv.sk l i) == 33) = true then Sv.sk l i + 1 else Sv.sk l i) := by split <;> omega
      generalize (if (Sv.pk l (Sv.sk l i) == 33) = true then Sv.sk l i + 1 else Sv.sk l i) = x at hx ⊢
      have ht := Sv.cond_lo l x
      cases hr : Sv.cond l x with
      | inl k => rw [hr] at ht; exact Nat.le_trans hs (Nat.le_trans hx ht)
      | inr p =>
        obtain ⟨c, j⟩ := p
        rw [hr] at ht
        have h2 : x ≤ j := ht
        have := ih (acc ++ [⟨Sv.pk l (Sv.sk l i) == 33, c.kind, c.terms⟩]) j
        show i ≤ Sv.pos (Sv.cdF n l _ j)
        omega
theorem Sv.conds_lo (l : List UInt8) (i : Nat) : i ≤ Sv.pos (Sv.conds l i) := by
  have ht := Sv.cond_lo l i
  unfold Sv.conds
  cases hr : Sv.cond l i with
  | inl k => rw [hr] at ht; exact ht
  | inr p =>
    obtain ⟨c, j⟩ := p
    rw [hr] at ht
    have h2 : i ≤ j := ht
    have := Sv.cdF_lo (l.length + 1) l [c] j
    show i ≤ Sv.pos (Sv.cdF (l.length + 1) l [c] j)
    omega
theorem Sv.nmF_lo (n : Nat) (l : List UInt8) (i : Nat) : i ≤ Sv.nmF n l i := by
  induction n generalizing i with
  | zero => exact Nat.le_refl _
  | succ n ih =>
    rw [Sv.nmF_step]
    split
    · have := ih (i + 1); omega
    · exact Nat.le_refl _
theorem Sv.rule_lo (l : List UInt8) (i : Nat) : i ≤ Sv.pos (Sv.rule l i) := by
  have hn := Sv.nmF_lo 8 l i
  have hs := Sv.sk_ge l (Sv.nmF 8 l i)
  unfold Sv.rule
  simp only
  split
  · exact Nat.le_refl _
  · split
    · have ht := Sv.conds_lo l (Sv.sk l (Sv.nmF 8 l i) + 1)
      cases hr : Sv.conds l (Sv.sk l (Sv.nmF 8 l i) + 1) with
      | inl k => rw [hr] at ht; have h2 : Sv.sk l (Sv.nmF 8 l i) + 1 ≤ k := ht; show i ≤ k; omega
      | inr q => rw [hr] at ht; have h2 : Sv.sk l (Sv.nmF 8 l i) + 1 ≤ q.2 := ht; show i ≤ q.2; omega
    · show i ≤ Sv.sk l (Sv.nmF 8 l i); omega

/-- Two texts that read alike up to a place, which lies in both. -/
structure Sv.Like (n : Nat) (l m : List UInt8) : Prop where
  pk : ∀ i, i ≤ n → Sv.pk l i = Sv.pk m i
  hl : n < l.length
  hm : n < m.length

theorem Sv.Like.sk {n : Nat} {l m : List UInt8} (h : Sv.Like n l m) (d : Nat) : ∀ i, n ≤ i + d → Sv.sk l i ≤ n → Sv.sk m i = Sv.sk l i := by
  induction d with
  | zero =>
    intro i hi hs
    have h1 := Sv.sk_ge l i
    obtain rfl : i = n := by omega
    cases hb : Sv.blB (Sv.pk l i)
    · rw [Sv.sk_no l i hb, Sv.sk_no m i (by rw [← h.pk i (Nat.le_refl _)]; exact hb)]
    · have h2 := (Sv.sk_yes l i hb).1
      have h3 := Sv.sk_ge l (i + 1)
      omega
  | succ d ih =>
    intro i hi hs
    have h1 := Sv.sk_ge l i
    cases hb : Sv.blB (Sv.pk l i)
    · rw [Sv.sk_no l i hb, Sv.sk_no m i (by rw [← h.pk i (by omega)]; exact hb)]
    · have h2 := (Sv.sk_yes l i hb).1
      rw [h2, (Sv.sk_yes m i (by rw [← h.pk i (by omega)]; exact hb)).1]
      exact ih (i + 1) (by omega) (by rw [← h2]; exact hs)
theorem Sv.Like.sk' {n : Nat} {l m : List UInt8} (h : Sv.Like n l m) (i : Nat) (hs : Sv.sk l i ≤ n) : Sv.sk m i = Sv.sk l i := h.sk n i (by omega) hs
theorem Sv.Like.nm {n : Nat} {l m : List UInt8} (h : Sv.Like n l m) (k : Nat) : ∀ i, Sv.nmF k l i ≤ n → Sv.nmF k m i = Sv.nmF k l i := by
  induction k with
  | zero => intro i _; rfl
  | succ k ih =>
    intro i hs
    have hin := Nat.le_trans (Sv.nmF_lo (k + 1) l i) hs
    rw [Sv.nmF_step] at hs ⊢
    rw [Sv.nmF_step, ← h.pk i hin]
    split
    · rename_i hc; rw [if_pos hc] at hs; exact ih (i + 1) hs
    · rfl
theorem Sv.ndF_lo (n : Nat) (l : List UInt8) (v i : Nat) : i ≤ (Sv.ndF n l v i).2 := by
  induction n generalizing v i with
  | zero => exact Nat.le_refl _
  | succ n ih =>
    rw [Sv.ndF_step]
    split
    · have := ih (v * 10 + ((Sv.pk l i).toNat - 48)) (i + 1); omega
    · exact Nat.le_refl _
theorem Sv.Like.nd {n : Nat} {l m : List UInt8} (h : Sv.Like n l m) (k : Nat) : ∀ v i, (Sv.ndF k l v i).2 ≤ n → Sv.ndF k m v i = Sv.ndF k l v i := by
  induction k with
  | zero => intro v i _; rfl
  | succ k ih =>
    intro v i hs
    have hin := Nat.le_trans (Sv.ndF_lo (k + 1) l v i) hs
    rw [Sv.ndF_step] at hs ⊢
    rw [Sv.ndF_step, ← h.pk i hin]
    split
    · rename_i hc; rw [if_pos hc] at hs; exact ih _ (i + 1) hs
    · rfl
theorem Sv.Like.number {n : Nat} {l m : List UInt8} (h : Sv.Like n l m) (i : Nat) (hs : Sv.pos (Sv.number l i) ≤ n) : Sv.number m i = Sv.number l i := by
  have hlo := Sv.number_lo l i
  unfold Sv.number at hs ⊢
  simp only at hs ⊢
  rw [← h.pk i (by unfold Sv.number at hlo; simp only at hlo; omega)]
  generalize (if (Sv.pk l i == 45) = true then i + 1 else i) = x at hs ⊢
  have hx : (Sv.ndF 9 l 0 x).2 ≤ n := by
    by_cases hq : (Sv.ndF 9 l 0 x).2 = x
    · rw [if_pos hq] at hs; rw [hq]; exact hs
    · rw [if_neg hq] at hs; exact hs
  rw [h.nd 9 0 x hx]
theorem Sv.Like.term {n : Nat} {l m : List UInt8} (h : Sv.Like n l m) (i : Nat) (hs : Sv.pos (Sv.term l i) ≤ n) : Sv.term m i = Sv.term l i := by
  have hlo := Sv.term_lo l i
  have hp := h.pk i (by omega)
  have hbh : Sv.behind m i = Sv.behind l i := by unfold Sv.behind; rw [h.pk (i - 1) (by omega)]
  unfold Sv.term at hs ⊢
  rw [← hp, hbh]
  split
  · rfl
  · rename_i h1
    rw [if_neg h1] at hs
    split
    · rfl
    · rename_i h2
      rw [if_neg h2] at hs
      split
      · rename_i h3
        rw [if_pos h3] at hs
        exact h.number i hs
      · rfl
theorem Sv.Like.tm {n : Nat} {l m : List UInt8} (h : Sv.Like n l m) (a : Nat) : ∀ (b : Nat) (acc : List Sv.Term) (i : Nat), l.length < i + a → m.length < i + b → Sv.pos (Sv.tmF a l acc i) ≤ n → Sv.tmF b m acc i = Sv.tmF a l acc i := by
  induction a with
  | zero =>
    intro b acc i ha _ hs
    have hs' : i ≤ n := hs
    have := h.hl
    omega
  | succ a ih =>
    intro b acc i ha hb hs
    have hlo := Sv.tmF_lo (a + 1) l acc i
    have hm := h.hm
    obtain ⟨b, rfl⟩ : ∃ b', b = b' + 1 := ⟨b - 1, by omega⟩
    have hsk := Sv.sk_ge l i
    have hsn : Sv.sk l i ≤ n := by
      rw [Sv.tmF_step] at hs
      split at hs
      · have : Sv.sk l i + 1 ≤ n := hs; omega
      · have ht := Sv.term_lo l (Sv.sk l i)
        cases hr : Sv.term l (Sv.sk l i) with
        | inl k => rw [hr] at hs ht; exact Nat.le_trans ht hs
        | inr p =>
          obtain ⟨t, j⟩ := p
          rw [hr] at hs ht
          have h2 := Sv.tmF_lo a l (acc ++ [t]) j
          exact Nat.le_trans ht (Nat.le_trans h2 hs)
    rw [Sv.tmF_step] at hs ⊢
    rw [Sv.tmF_step, h.sk' i hsn, ← h.pk _ hsn]
    split
    · rfl
    · rename_i h41
      rw [if_neg h41] at hs
      have hok := Sv.term_ok l (Sv.sk l i) (by have := h.hl; omega)
      have htp : Sv.pos (Sv.term l (Sv.sk l i)) ≤ n := by
        cases hr : Sv.term l (Sv.sk l i) with
        | inl k => rw [hr] at hs; exact hs
        | inr p =>
          obtain ⟨t, j⟩ := p
          rw [hr] at hs
          exact Nat.le_trans (Sv.tmF_lo a l (acc ++ [t]) j) hs
      rw [h.term _ htp]
      cases hr : Sv.term l (Sv.sk l i) with
      | inl k => rfl
      | inr p =>
        obtain ⟨t, j⟩ := p
        rw [hr] at hs hok
        exact ih b (acc ++ [t]) j (by have := hok.1; omega) (by have := hok.1; omega) hs
theorem Sv.Like.terms {n : Nat} {l m : List UInt8} (h : Sv.Like n l m) (i : Nat) (hs : Sv.pos (Sv.terms l i) ≤ n) : Sv.terms m i = Sv.terms l i :=
  h.tm (l.length + 1) (m.length + 1) [] i (by omega) (by omega) hs
theorem Sv.Like.cond {n : Nat} {l m : List UInt8} (h : Sv.Like n l m) (i : Nat) (hs : Sv.pos (Sv.cond l i) ≤ n) : Sv.cond m i = Sv.cond l i := by
  have hs1 := Sv.sk_ge l i
  have hs2 := Sv.sk_ge l (Sv.sk l i + 1)
  have hsn : Sv.sk l i ≤ n := by
    unfold Sv.cond at hs
    split at hs
    · simp only at hs
      split at hs
      · have ht := Sv.tmF_lo (l.length + 1) l [] (Sv.sk l (Sv.sk l i + 1) + 1)
        cases hr : Sv.terms l (Sv.sk l (Sv.sk l i + 1) + 1) with
        | inl k =>
          rw [hr] at hs
          unfold Sv.terms at hr
          rw [hr] at ht
          have h2 : Sv.sk l (Sv.sk l i + 1) + 1 ≤ k := ht
          have h3 : k ≤ n := hs
          omega
        | inr q =>
          rw [hr] at hs
          unfold Sv.terms at hr
          rw [hr] at ht
          have h2 : Sv.sk l (Sv.sk l i + 1) + 1 ≤ q.2 := ht
          have h3 : q.2 ≤ n := hs
          omega
      · have h3 : Sv.sk l (Sv.sk l i + 1) ≤ n := hs; omega
    · exact hs
  unfold Sv.cond at hs ⊢
  rw [h.sk' i hsn, ← h.pk _ hsn]
  split
  · rename_i h40
    rw [if_pos h40] at hs
    simp only at hs ⊢
    have hkn : Sv.sk l (Sv.sk l i + 1) ≤ n := by
      split at hs
      · have ht := Sv.tmF_lo (l.length + 1) l [] (Sv.sk l (Sv.sk l i + 1) + 1)
        cases hr : Sv.terms l (Sv.sk l (Sv.sk l i + 1) + 1) with
        | inl k =>
          rw [hr] at hs
          unfold Sv.terms at hr
          rw [hr] at ht
          have h2 : Sv.sk l (Sv.sk l i + 1) + 1 ≤ k := ht
          have h3 : k ≤ n := hs
          omega
        | inr q =>
          rw [hr] at hs
          unfold Sv.terms at hr
          rw [hr] at ht
          have h2 : Sv.sk l (Sv.sk l i + 1) + 1 ≤ q.2 := ht
          have h3 : q.2 ≤ n := hs
          omega
      · exact hs
    rw [h.sk' _ hkn, ← h.pk _ hkn]
    split
    · rename_i hd
      rw [if_pos hd] at hs
      have htp : Sv.pos (Sv.terms l (Sv.sk l (Sv.sk l i + 1) + 1)) ≤ n := by
        cases hr : Sv.terms l (Sv.sk l (Sv.sk l i + 1) + 1) with
        | inl k => rw [hr] at hs; exact hs
        | inr q => rw [hr] at hs; exact hs
      rw [h.terms _ htp]
    · rfl
  · rfl
theorem Sv.Like.cd {n : Nat} {l m : List UInt8} (h : Sv.Like n l m) (a : Nat) : ∀ (b : Nat) (acc : List Sv.Cond) (i : Nat), l.length < i + a → m.length < i + b → Sv.pos (Sv.cdF a l acc i) ≤ n → Sv.cdF b m acc i = Sv.cdF a l acc i := by
  induction a with
  | zero =>
    intro b acc i ha _ hs
    have hs' : i ≤ n := hs
    have := h.hl
    omega
  | succ a ih =>
    intro b acc i ha hb hs
    have hlo := Sv.cdF_lo (a + 1) l acc i
    have hm := h.hm
    have hl := h.hl
    obtain ⟨b, rfl⟩ : ∃ b', b = b' + 1 := ⟨b - 1, by omega⟩
    have hsk := Sv.sk_ge l i
    have hx : Sv.sk l i ≤ (if (Sv.pk l (Sv.sk l i) == 33) = true then Sv.sk l i + 1 else Sv.sk l i) := by split <;> omega
    have hsn : Sv.sk l i ≤ n := by
      rw [Sv.cdF_step] at hs
      split at hs
      · have : Sv.sk l i + 1 ≤ n := hs; omega
      · generalize (if (Sv.pk l (Sv.sk l i) == 33) = true then Sv.sk l i + 1 else Sv.sk l i) = x at hx hs
        have ht := Sv.cond_lo l x
        cases hr : Sv.cond l x with
        | inl k => rw [hr] at hs ht; exact Nat.le_trans hx (Nat.le_trans ht hs)
        | inr p =>
          obtain ⟨c, j⟩ := p
          rw [hr] at hs ht
          exact Nat.le_trans hx (Nat.le_trans ht (Nat.le_trans (Sv.cdF_lo a l _ j) hs))
    rw [Sv.cdF_step] at hs ⊢
    rw [Sv.cdF_step, h.sk' i hsn, ← h.pk _ hsn]
    split
    · rfl
    · rename_i h59
      rw [if_neg h59] at hs
      have hxl : (if (Sv.pk l (Sv.sk l i) == 33) = true then Sv.sk l i + 1 else Sv.sk l i) ≤ l.length := by split <;> omega
      generalize (if (Sv.pk l (Sv.sk l i) == 33) = true then Sv.sk l i + 1 else Sv.sk l i) = x at hx hs hxl ⊢
      have hok := Sv.cond_ok l x hxl
      have htp : Sv.pos (Sv.cond l x) ≤ n := by
        cases hr : Sv.cond l x with
        | inl k => rw [hr] at hs; exact hs
        | inr p =>
          obtain ⟨c, j⟩ := p
          rw [hr] at hs
          exact Nat.le_trans (Sv.cdF_lo a l _ j) hs
      rw [h.cond _ htp]
      cases hr : Sv.cond l x with
      | inl k => rfl
      | inr p =>
        obtain ⟨c, j⟩ := p
        rw [hr] at hs hok
        exact ih b _ j (by have := hok.1; omega) (by have := hok.1; omega) hs
theorem Sv.Like.conds {n : Nat} {l m : List UInt8} (h : Sv.Like n l m) (i : Nat) (hs : Sv.pos (Sv.conds l i) ≤ n) : Sv.conds m i = Sv.conds l i := by
  have htp : Sv.pos (Sv.cond l i) ≤ n := by
    unfold Sv.conds at hs
    cases hr : Sv.cond l i with
    | inl k => rw [hr] at hs; exact hs
    | inr p =>
      obtain ⟨c, j⟩ := p
      rw [hr] at hs
      exact Nat.le_trans (Sv.cdF_lo _ l [c] j) hs
  unfold Sv.conds at hs ⊢
  rw [h.cond i htp]
  cases hr : Sv.cond l i with
  | inl k => rfl
  | inr p =>
    obtain ⟨c, j⟩ := p
    rw [hr] at hs
    exact h.cd (l.length + 1) (m.length + 1) [c] j (by omega) (by omega) hs
theorem Sv.Like.rule {n : Nat} {l m : List UInt8} (h : Sv.Like n l m) (i : Nat) (hs : Sv.pos (Sv.rule l i) ≤ n) : Sv.rule m i = Sv.rule l i := by
  have hn := Sv.nmF_lo 8 l i
  have hs1 := Sv.sk_ge l (Sv.nmF 8 l i)
  have hjn : Sv.nmF 8 l i ≤ n := by
    unfold Sv.rule at hs
    simp only at hs
    split at hs
    · rename_i he; rw [he]; exact hs
    · split at hs
      · have ht := Sv.conds_lo l (Sv.sk l (Sv.nmF 8 l i) + 1)
        cases hr : Sv.conds l (Sv.sk l (Sv.nmF 8 l i) + 1) with
        | inl k => rw [hr] at hs ht; have h2 : Sv.sk l (Sv.nmF 8 l i) + 1 ≤ k := ht; have h3 : k ≤ n := hs; omega
        | inr q => rw [hr] at hs ht; have h2 : Sv.sk l (Sv.nmF 8 l i) + 1 ≤ q.2 := ht; have h3 : q.2 ≤ n := hs; omega
      · have h3 : Sv.sk l (Sv.nmF 8 l i) ≤ n := hs; omega
  have hcut : (m.take (Sv.nmF 8 l i)).drop i = (l.take (Sv.nmF 8 l i)).drop i := by
    have hhl := h.hl
    have hhm := h.hm
    congr 1
    apply List.ext_getElem?
    intro k
    rw [List.getElem?_take, List.getElem?_take]
    split
    · rename_i hk
      have hp := h.pk k (by omega)
      rw [Sv.pk_at l k (by omega), Sv.pk_at m k (by omega)] at hp
      rw [List.getElem?_eq_getElem (by omega), List.getElem?_eq_getElem (by omega), hp]
    · rfl
  unfold Sv.rule at hs ⊢
  simp only at hs ⊢
  rw [h.nm 8 i hjn]
  split
  · rfl
  · rename_i hne
    rw [if_neg hne] at hs
    have hsn : Sv.sk l (Sv.nmF 8 l i) ≤ n := by
      split at hs
      · have ht := Sv.conds_lo l (Sv.sk l (Sv.nmF 8 l i) + 1)
        cases hr : Sv.conds l (Sv.sk l (Sv.nmF 8 l i) + 1) with
        | inl k => rw [hr] at hs ht; have h2 : Sv.sk l (Sv.nmF 8 l i) + 1 ≤ k := ht; have h3 : k ≤ n := hs; omega
        | inr q => rw [hr] at hs ht; have h2 : Sv.sk l (Sv.nmF 8 l i) + 1 ≤ q.2 := ht; have h3 : q.2 ≤ n := hs; omega
      · exact hs
    rw [h.sk' _ hsn, ← h.pk _ hsn, hcut]
    split
    · rename_i h58
      rw [if_pos h58] at hs
      have htp : Sv.pos (Sv.conds l (Sv.sk l (Sv.nmF 8 l i) + 1)) ≤ n := by
        cases hr : Sv.conds l (Sv.sk l (Sv.nmF 8 l i) + 1) with
        | inl k => rw [hr] at hs; exact hs
        | inr q => rw [hr] at hs; exact hs
      rw [h.conds _ htp]
    · rfl
theorem Sv.rlF_lo (a : Nat) (l : List UInt8) (acc : List Sv.Rule) (i k : Nat) (h : Sv.rlF a l acc i = .inl k) : i ≤ k := by
  induction a generalizing acc i with
  | zero => cases h; exact Nat.le_refl _
  | succ a ih =>
    rw [Sv.rlF_step] at h
    split at h
    · have ht := Sv.rule_lo l i
      cases hr : Sv.rule l i with
      | inl q => rw [hr] at h ht; cases h; exact ht
      | inr p =>
        obtain ⟨q, j⟩ := p
        rw [hr] at h ht
        have h1 := ih _ _ h
        have h2 := Sv.sk_ge l j
        have h3 : i ≤ j := ht
        omega
    · cases h
theorem Sv.Like.rl {n : Nat} {l m : List UInt8} (h : Sv.Like n l m) (a : Nat) : ∀ (b : Nat) (acc : List Sv.Rule) (i : Nat), l.length < i + a → m.length < i + b → Sv.rlF a l acc i = .inl n → Sv.rlF b m acc i = .inl n := by
  induction a with
  | zero =>
    intro b acc i ha _ hs
    have : i = n := by cases hs; rfl
    have := h.hl
    omega
  | succ a ih =>
    intro b acc i ha hb hs
    have hlo := Sv.rlF_lo _ _ _ _ _ hs
    have hm := h.hm
    have hl := h.hl
    obtain ⟨b, rfl⟩ : ∃ b', b = b' + 1 := ⟨b - 1, by omega⟩
    rw [Sv.rlF_step, if_pos (by omega)] at hs
    rw [Sv.rlF_step, if_pos (by omega)]
    have hok := Sv.rule_ok l i (by omega)
    cases hr : Sv.rule l i with
    | inl k =>
      rw [hr] at hs
      have e : k = n := by cases hs; rfl
      subst e
      rw [h.rule i (by rw [hr]; exact Nat.le_refl _), hr]
    | inr p =>
      obtain ⟨q, j⟩ := p
      rw [hr] at hs hok
      have h1 := Sv.rlF_lo _ _ _ _ _ hs
      have h2 := Sv.sk_ge l j
      rw [h.rule i (by rw [hr]; show j ≤ n; omega), hr]
      simp only
      rw [h.sk' j h1]
      exact ih b _ _ (by have := hok.1; omega) (by have := hok.1; omega) hs
/-- A text that is wrong at a byte is wrong there whatever follows. -/
theorem Sv.Like.rules {n : Nat} {l m : List UInt8} (h : Sv.Like n l m) (hs : Sv.rules l = .inl n) : Sv.rules m = .inl n := by
  unfold Sv.rules at hs ⊢
  have h1 := Sv.rlF_lo _ _ _ _ _ hs
  rw [h.sk' 0 h1]
  exact h.rl _ _ _ _ (by omega) (by omega) hs
theorem Sv.rlF_hi (a : Nat) (l : List UInt8) (acc : List Sv.Rule) (i k : Nat) (hi : i ≤ l.length) (h : Sv.rlF a l acc i = .inl k) : k ≤ l.length := by
  induction a generalizing acc i with
  | zero => cases h; exact hi
  | succ a ih =>
    rw [Sv.rlF_step] at h
    split at h
    · have ht := Sv.rule_ok l i hi
      cases hr : Sv.rule l i with
      | inl q => rw [hr] at h ht; cases h; exact ht
      | inr p =>
        obtain ⟨q, j⟩ := p
        rw [hr] at h ht
        exact ih _ _ (Sv.sk_le l j ht.2).2 h
    · cases h
theorem Sv.rules_hi (l : List UInt8) (k : Nat) (h : Sv.rules l = .inl k) : k ≤ l.length := Sv.rlF_hi _ l [] _ k (Sv.sk_le l 0 (Nat.zero_le _)).2 h

theorem Sv.pk_take (l : List UInt8) (n i : Nat) (h : i < n) : Sv.pk (l.take n) i = Sv.pk l i := by
  unfold Sv.pk
  rw [List.getD_eq_getElem?_getD, List.getD_eq_getElem?_getD, List.getElem?_take, if_pos h]
theorem Sv.pk_app (l m : List UInt8) (i : Nat) (h : i < l.length) : Sv.pk (l ++ m) i = Sv.pk l i := by
  unfold Sv.pk
  rw [List.getD_eq_getElem?_getD, List.getD_eq_getElem?_getD, List.getElem?_append_left h]
/-- Up to the byte at which it is wrong, and with whatever behind it. -/
theorem Sv.cut_wrong (l : List UInt8) (n : Nat) (h : Sv.rules l = .inl n) (hn : n < l.length) (more : List UInt8) : Sv.rules (l.take (n + 1) ++ more) = .inl n := by
  have hlen : (l.take (n + 1)).length = n + 1 := by rw [List.length_take]; omega
  refine Sv.Like.rules (l := l) ⟨?_, hn, by rw [List.length_append, hlen]; omega⟩ h
  intro i hi
  rw [Sv.pk_app _ _ _ (by rw [hlen]; omega), Sv.pk_take _ _ _ (by omega)]
/-- Of what stands ahead of it nothing is wrong but that it ends. -/
theorem Sv.ahead_wrong (l : List UInt8) (n k : Nat) (h : Sv.rules l = .inl n) (hn : n < l.length) (hk : Sv.rules (l.take n) = .inl k) : k = n := by
  have hlen : (l.take n).length = n := by rw [List.length_take]; omega
  have hhi := Sv.rules_hi _ _ hk
  rw [hlen] at hhi
  rcases Nat.lt_or_ge k n with hlt | hge
  · have := Sv.Like.rules (l := l.take n) (m := l) ⟨fun i hi => Sv.pk_take l n i (by omega), by rw [hlen]; exact hlt, by omega⟩ hk
    rw [h] at this
    cases this
    rfl
  · omega

end Go.Proofs.YtolhbeekfjnfmaaDoor

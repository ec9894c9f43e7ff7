/- The document's reader: rules. -/
import Derived.Test.YtolhbeekfjnfmaaGreatDoorVd
namespace Go.Proofs.YtolhbeekfjnfmaaGreatDoor
open Go.RowKit

theorem vblanks_any (b : Nat) (s : ByteArray) (i : Nat) (bd : Bool) (w : World) (hi : i ≤ s.size) (hs : s.size ≤ 400) (hb : VAt b s i bd w) :
    Calls Tryz.prog 117 #[.pointer (some ⟨b, 0, none⟩)] w fun e w' => e = .returned (.tuple #[]) ∧ VAt b s (if bd = true then i else Sv.sk s.data.toList i) bd w' ∧ w.grownBy w' (some b) := by
  cases bd
  · exact vblanks_w b s i w hi hs hb
  · exact vblanks_bad b s i w hb
theorem vhere_any (b : Nat) (s : ByteArray) (i : Nat) (bd : Bool) (w : World) (hi : i ≤ s.size) (hs : s.size ≤ 400) (hb : VAt b s i bd w) :
    Calls Tryz.prog 148 #[.pointer (some ⟨b, 0, none⟩)] w fun e w' => e = .returned (.int .u8 (if bd = true then (0 : UInt8) else Sv.pk s.data.toList i).toNat) ∧ ∃ n, w' = w.drewN n := by
  cases bd
  · exact vhere_w b s i w hi hs hb
  · exact vhere_bad b s i w hb
theorem vone_any (b : Nat) (s : ByteArray) (i : Nat) (bd : Bool) (c : UInt8) (hc : c ≠ 0) (x : Int) (hx : x = c.toNat) (w : World) (hi : i ≤ s.size) (hs : s.size ≤ 400) (hb : VAt b s i bd w) :
    Calls Tryz.prog 150 #[.pointer (some ⟨b, 0, none⟩), .int .u8 x] w fun e w' => ∃ j bd', e = .returned (.tuple #[]) ∧ VAt b s j bd' w' ∧ w.grownBy w' (some b) ∧ j ≤ s.size ∧
      Hid ((bd = true ∧ bd' = true ∧ j = i) ∨ (bd = false ∧ bd' = false ∧ (Sv.pk s.data.toList i == c) = true ∧ j = i + 1) ∨ (bd = false ∧ bd' = true ∧ (Sv.pk s.data.toList i == c) = false ∧ j = i)) := by
  cases bd
  · cases h : Sv.pk s.data.toList i == c
    · refine (vone_no b s i c x hx w hi hs h hb).mono ?_
      rintro e w' ⟨rfl, h1, h2⟩
      exact ⟨i, true, rfl, h1, h2, hi, .inr (.inr ⟨rfl, rfl, rfl, rfl⟩)⟩
    · refine (vone_yes b s i c x hx w hi hs h hb).mono ?_
      rintro e w' ⟨rfl, h1, h2⟩
      have h3 := Sv.byte_pos _ _ c hc h
      rw [size_list] at h3
      exact ⟨i + 1, false, rfl, h1, h2, h3, .inr (.inl ⟨rfl, rfl, rfl, rfl⟩)⟩
  · refine (vone_bad b s i c hc x hx w hb).mono ?_
    rintro e w' ⟨rfl, h1, h2⟩
    exact ⟨i, true, rfl, h1, h2, hi, .inl ⟨rfl, rfl, rfl⟩⟩
theorem vname_any (b : Nat) (s : ByteArray) (i : Nat) (w : World) (hi : i ≤ s.size) (hs : s.size ≤ 400) (hb : VAt b s i false w) :
    Calls Tryz.prog 149 #[.pointer (some ⟨b, 0, none⟩)] w fun e w' => ∃ (nm : ByteArray) (j : Nat) (bd : Bool), e = .returned (.string nm) ∧ VAt b s j bd w' ∧ w.grownBy w' (some b) ∧ j ≤ s.size ∧
      Hid ((bd = true ∧ Sv.nmF 8 s.data.toList i = i ∧ j = i) ∨ (bd = false ∧ Sv.nmF 8 s.data.toList i ≠ i ∧ j = Sv.nmF 8 s.data.toList i ∧ nm = ⟨(Sv.cut s.data.toList i j).toArray⟩)) := by
  by_cases h : Sv.nmF 8 s.data.toList i = i
  · refine (vname_no b s i w hi hs h hb).mono ?_
    rintro e w' ⟨rfl, h1, h2⟩
    exact ⟨_, i, true, rfl, h1, h2, hi, .inl ⟨rfl, h, rfl⟩⟩
  · refine (vname_yes b s i w hi hs h hb).mono ?_
    rintro e w' ⟨rfl, h1, h2⟩
    have h3 := (Sv.nmF_le 8 s.data.toList i (by simpa using hi)).2.1
    rw [size_list] at h3
    exact ⟨_, _, false, rfl, h1, h2, h3, .inr ⟨rfl, h, rfl, rfl⟩⟩

theorem C2.row {T : TypeId} {N : Nat} {x y : Value} {w w' : World} {row : Option Nat} {base : Nat} {e : TypeId} (h : C2 T N x y w) (hg : w.grownBy w' row) (hr : RowOk base e row w) (he : e ≠ T) : C2 T N x y w' := by
  refine h.kept hg (fun e1 => ?_)
  obtain ⟨_, cur, fz, h2⟩ := hr N e1.symm
  unfold C2 at h
  rw [h] at h2
  simp at h2
  exact he h2.2.1.symm
theorem C2.drewN {T : TypeId} {N : Nat} {x y : Value} {w : World} (h : C2 T N x y w) (n : Nat) : C2 T N x y (w.drewN n) := h
theorem C2.put0 {T : TypeId} {N : Nat} {a b : Value} {w : World} (h : C2 T N a b w) (x : Value) : C2 T N x b (w.setCell ⟨N, 0, none⟩ x) := by
  unfold C2 at h ⊢
  rw [heap_setCell_same w N 0 _ _ x h]; rfl
theorem C2.put1 {T : TypeId} {N : Nat} {a b : Value} {w : World} (h : C2 T N a b w) (x : Value) : C2 T N a x (w.setCell ⟨N, 1, none⟩ x) := by
  unfold C2 at h ⊢
  rw [heap_setCell_same w N 1 _ _ x h]; rfl
theorem u8_33 (c : UInt8) : ((c.toNat : Int) == 33) = (c == 33) := u8_inj c 33
theorem u8_59 (c : UInt8) : ((c.toNat : Int) == 59) = (c == 59) := u8_inj c 59

/-- What comes at the head of the loop, when so many conditions were read. -/
def Sv.hdF (n : Nat) (l : List UInt8) (acc : List Sv.Cond) (p : Nat) : Nat ⊕ (List Sv.Cond × Nat) :=
  match Sv.cond l (if (Sv.pk l p == 33 && decide (0 < acc.length)) = true then p + 1 else p) with
  | .inl k => .inl k
  | .inr (c, j) => Sv.cdF n l (acc ++ [⟨Sv.pk l p == 33 && decide (0 < acc.length), c.kind, c.terms⟩]) j
theorem Sv.hd_start (l : List UInt8) (i : Nat) : Sv.hdF (l.length + 1) l [] (Sv.sk l i) = Sv.conds l i := by
  unfold Sv.hdF Sv.conds
  rw [show (Sv.pk l (Sv.sk l i) == 33 && decide (0 < ([] : List Sv.Cond).length)) = false from by simp, if_neg (by simp), Sv.cond_sk]
  cases hc : Sv.cond l i with
  | inl k => rfl
  | inr q =>
    obtain ⟨c, j⟩ := q
    have hn := Sv.cond_neg _ _ _ _ hc
    show Sv.cdF (l.length + 1) l [⟨false, c.kind, c.terms⟩] j = Sv.cdF (l.length + 1) l [c] j
    rw [← hn]
theorem Sv.hd_next (n : Nat) (l : List UInt8) (acc : List Sv.Cond) (j : Nat) (hacc : 0 < acc.length) (h : (Sv.pk l (Sv.sk l j) == 59) = false) : Sv.cdF (n + 1) l acc j = Sv.hdF n l acc (Sv.sk l j) := by
  rw [Sv.cdF_step, h, if_neg (by simp)]
  unfold Sv.hdF
  rw [show decide (0 < acc.length) = true from by simpa using hacc, Bool.and_true]
  cases Sv.cond l (if (Sv.pk l (Sv.sk l j) == 33) = true then Sv.sk l j + 1 else Sv.sk l j) <;> rfl
theorem Sv.hd_none (n : Nat) (l : List UInt8) (acc : List Sv.Cond) (p : Nat) (hsk : Sv.sk l p = p) (h3 : (Sv.pk l p == 33) = false) (h4 : (Sv.pk l p == 40) = false) : Sv.hdF n l acc p = .inl p := by
  unfold Sv.hdF
  rw [h3]
  simp only [Bool.false_and, Bool.false_eq_true, if_false]
  rw [show Sv.cond l p = .inl p from by unfold Sv.cond; rw [hsk, h4]; rfl]

/-- What holds at the head of the loop. -/
def VRLoop (b : Nat) (s : ByteArray) (U : Nat) (w : World) (i : Nat) (r : Nat ⊕ (Sv.Rule × Nat)) (w' : World) : Prop :=
  ∃ (p : Nat) (nm : ByteArray) (u : Value) (bad : Bool), VAt b s p bad w' ∧ p ≤ s.size ∧ C2 163 U (.string nm) u w' ∧ C2 163 w.heap.size (.string ⟨#[]⟩) (.slice none 0 0) w' ∧ w.grownBy w' (some b) ∧
    ((bad = true ∧ r = .inl p ∧ ∃ ao n cap, u = .slice ao n cap) ∨ (bad = false ∧ ∃ (n : Nat) (acc : List Sv.Cond), s.size < p + n + 1 ∧ acc.length ≤ p ∧ Sv.sk s.data.toList p = p ∧ VCsAt w.heap.size u acc w' ∧ nm = ⟨(Sv.cut s.data.toList i (Sv.nmF 8 s.data.toList i)).toArray⟩ ∧
      (match Sv.hdF n s.data.toList acc p with
        | .inl m => .inl m
        | .inr (cs, m) => .inr (⟨Sv.cut s.data.toList i (Sv.nmF 8 s.data.toList i), cs⟩, m)) = r))

theorem Sv.rule_eq (l : List UInt8) (i : Nat) (h : Sv.nmF 8 l i ≠ i) (h2 : (Sv.pk l (Sv.sk l (Sv.nmF 8 l i)) == 58) = true) : Sv.rule l i = match Sv.conds l (Sv.sk l (Sv.nmF 8 l i) + 1) with
    | .inl m => .inl m
    | .inr (cs, m) => .inr (⟨Sv.cut l i (Sv.nmF 8 l i), cs⟩, m) := by
  unfold Sv.rule
  simp only
  rw [if_neg h, h2, if_pos rfl]
  cases Sv.conds l (Sv.sk l (Sv.nmF 8 l i) + 1) <;> rfl

set_option maxRecDepth 100000 in
set_option maxHeartbeats 2000000 in
theorem vrule_w (b : Nat) (s : ByteArray) (i : Nat) (w : World) (hi : i ≤ s.size) (hs : s.size ≤ 400) (hb : VAt b s i false w) (r : Nat ⊕ (Sv.Rule × Nat)) (hR : Sv.rule s.data.toList i = r) :
    Calls Tryz.prog 118 #[.pointer (some ⟨b, 0, none⟩)] w fun e w' => VRPost b s w r e w' := by
  obtain ⟨i0, hinf, hz0, hz1, hz2⟩ := info_parts Tryz.infoVCond
  have HR := hide hR
  clear hR
  have hlt := hb.lt
  have hgA := World.grownBy_alloc w (.cells #[.string ⟨#[]⟩, .slice none 0 0] 163) none
  have hgB := World.grownBy_alloc (w.alloc (.cells #[.string ⟨#[]⟩, .slice none 0 0] 163)) (.cells #[.string ⟨#[]⟩, .slice none 0 0] 163) none
  have hR0 : C2 163 w.heap.size (.string ⟨#[]⟩) (.slice none 0 0) (w.alloc (.cells #[.string ⟨#[]⟩, .slice none 0 0] 163)) := heap_alloc_new _ _
  have hR1 := hR0.kept hgB (by simp)
  have hU1 : C2 163 (w.heap.size + 1) (.string ⟨#[]⟩) (.slice none 0 0) ((w.alloc (.cells #[.string ⟨#[]⟩, .slice none 0 0] 163)).alloc (.cells #[.string ⟨#[]⟩, .slice none 0 0] 163)) := by
    have := heap_alloc_new (w.alloc (.cells #[.string ⟨#[]⟩, .slice none 0 0] 163)) (.cells #[.string ⟨#[]⟩, .slice none 0 0] 163)
    rwa [World.size_alloc] at this
  have hb1 := (hb.kept hgA (by simp)).kept hgB (by simp)
  have hg1 := gr_any (gr_trans hgA hgB) (some b)
  clear hgA hgB hR0
  go_enter Tryz.func118, Tryz.ntmps118
  go_wp2_with fail
  refine (vname_any b s i _ hi hs hb1).mono ?_
  rintro e w2 ⟨nm, j, bd, rfl, hb2, hg2, hj, HV⟩
  have hR2 := hR1.kept hg2 (by simp; omega)
  have hU2 := hU1.kept hg2 (by simp; omega)
  have hg02 := gr_trans hg1 hg2
  clear hR1 hU1 hg1 hg2 hb1
  generalize hUU : w.heap.size + 1 = U at *
  have hU0 : w.heap.size < U := by omega
  clear hUU
  have kU := gr_set w2 U 0 (.string nm)
  have hU3 := hU2.put0 (.string nm)
  have hR3 := hR2.kept kU (by simp; omega)
  have hb3 := hb2.kept kU (by simp; omega)
  have hg03 := gr_own hg02 kU (Nat.le_of_lt hU0)
  have a0 := hU2.c.1
  have az := hU2.fz 0
  clear hR2 hU2 hg02 hb2 kU
  go_wp2_with fail
  refine (vblanks_any b s j bd _ hj hs hb3).mono ?_
  rintro e w4 ⟨rfl, hb4, hg4⟩
  have hR4 := hR3.row hg4 hb3.rowOk (by decide)
  have hU4 := hU3.row hg4 hb3.rowOk (by decide)
  have hg04 := gr_trans hg03 hg4
  clear hR3 hU3 hg03 hg4 hb3 a0 az
  obtain ⟨j2, hj2⟩ : ∃ j2, (if bd = true then j else Sv.sk s.data.toList j) = j2 := ⟨_, rfl⟩
  rw [hj2] at hb4
  have hj2s : j2 ≤ s.size := by
    have := (Sv.sk_le s.data.toList j (by simpa using hj)).2
    rw [size_list] at this
    rw [← hj2]; split <;> omega
  have HJ2 := hide hj2
  clear hj2
  go_wp2_with fail
  refine (vone_any b s j2 bd 58 (by decide) _ rfl _ hj2s hs hb4).mono ?_
  rintro e w5 ⟨j3, bd3, rfl, hb5, hg5, hj3, HV2⟩
  have hR5 := hR4.row hg5 hb4.rowOk (by decide)
  have hU5 := hU4.row hg5 hb4.rowOk (by decide)
  have hg05 := gr_trans hg04 hg5
  clear hR4 hU4 hg04 hg5 hb4
  go_wp2_with fail
  refine (vblanks_any b s j3 bd3 _ hj3 hs hb5).mono ?_
  rintro e w6 ⟨rfl, hb6, hg6⟩
  have hR6 := hR5.row hg6 hb5.rowOk (by decide)
  have hU6 := hU5.row hg6 hb5.rowOk (by decide)
  have hg06 := gr_trans hg05 hg6
  clear hR5 hU5 hg05 hg6 hb5
  go_wp2_with fail
  go_loopw [] (fun w' => VRLoop b s U w i r w') (fun w' => msOf b s.size w')
  case atStart =>
    refine ⟨_, nm, _, bd3, hb6, ?_, hU6, hR6, hg06, ?_⟩
    · have := (Sv.sk_le s.data.toList j3 (by simpa using hj3)).2
      rw [size_list] at this
      split <;> omega
    · rcases unhide HV2 with ⟨rfl, rfl, rfl⟩ | ⟨rfl, rfl, h58, rfl⟩ | ⟨rfl, rfl, h58, rfl⟩
      · refine .inl ⟨rfl, ?_, _, _, _, rfl⟩
        rcases unhide HV with ⟨_, h8, rfl⟩ | ⟨h8, _⟩
        · have h7 : j3 = j := (unhide HJ2).symm
          rw [if_pos rfl, h7, ← unhide HR]
          unfold Sv.rule; simp only; rw [if_pos h8]
        · cases h8
      · refine .inr ⟨rfl, s.data.toList.length + 1, [], by simp; omega, Nat.zero_le _, ?_, ⟨[], World.ownsRow_nil _ _ _ _, rfl⟩, ?_, ?_⟩
        · rw [if_neg (by simp)]; exact Sv.sk_sk _ _
        · rcases unhide HV with ⟨h8, _⟩ | ⟨_, h8, rfl, rfl⟩
          · cases h8
          · rfl
        · rcases unhide HV with ⟨h8, _⟩ | ⟨_, h8, rfl, rfl⟩
          · cases h8
          · have h7 : Sv.sk s.data.toList (Sv.nmF 8 s.data.toList i) = j2 := unhide HJ2
            rw [if_neg (by simp), Sv.hd_start, ← unhide HR, ← h7]
            rw [← h7] at h58
            exact (Sv.rule_eq _ _ h8 h58).symm
      · refine .inl ⟨rfl, ?_, _, _, _, rfl⟩
        rcases unhide HV with ⟨h8, _⟩ | ⟨_, h8, rfl, rfl⟩
        · cases h8
        · have h7 : Sv.sk s.data.toList (Sv.nmF 8 s.data.toList i) = j3 := unhide HJ2
          rw [if_pos rfl, ← unhide HR]
          unfold Sv.rule; simp only; rw [if_neg h8, h7, h58]; rfl
  case round =>
    clear hR6 hU6 hg06 hb6 HV HV2 HJ2 HR hj hj2s hj3
    obtain ⟨p, nm, u, bad, hbk, hp, hU, hRr, hg, hcase⟩ := hrel
    have HM := hide (hbk.ms s.size)
    rcases hcase with ⟨rfl, hr, ao, nn, cap, rfl⟩ | ⟨rfl, m, acc, hm, hacc, hsk, hcs, hnm, hnx⟩
    · subst hr
      have c2 := hbk.c2
      obtain ⟨d0, d1⟩ := hU.c
      obtain ⟨q0, q1⟩ := hRr.c
      have z0 := hRr.fz 0
      have z1 := hRr.fz 1
      go_wp2
      have k3 := gr_set2 wr w.heap.size (.string nm) (.slice ao nn cap)
      obtain ⟨q0, q1⟩ := (hRr.set2 (.string nm) (.slice ao nn cap)).c
      exact bodyPost_ret (v := .agg #[.string nm, .slice ao nn cap]) (by simp [results, Tryz.results118, go_sem, q0, q1]) rfl ⟨_, _, _, _, rfl, hbk.kept k3 (by simp; omega), gr_own hg k3 (Nat.le_refl _)⟩
    · have HX := hide hnx
      have HNM := hide hnm
      clear hnx hnm
      have c2 := hbk.c2
      have c1 := hbk.c1
      have f1 := hbk.fz 1
      obtain ⟨d0, d1⟩ := hU.c
      obtain ⟨ao, cap, rfl⟩ := hcs.slice
      cases h33 : Sv.pk s.data.toList p == 33
      · have HNG : Hid ((Sv.pk s.data.toList p == 33 && decide (0 < acc.length)) = false) := by show (_ && _) = false; rw [h33]; rfl
        have HCQ : Hid (Sv.cond s.data.toList p = Sv.cond s.data.toList p) := rfl
        have e33 := (u8_33 (Sv.pk s.data.toList p)).trans h33
        have hxs : p ≤ s.size := hp
        go_wp2_with (go_at_call 148; refine (vhere_w b s p _ hp hs hbk).mono ?_; rintro e w7 ⟨rfl, n7, rfl⟩)
        have hbW := hbk.drewN n7
        have hUW := hU.drewN n7
        have hRW := hRr.drewN n7
        have hgW := gr_trans hg (gr_drewN wr n7 _)
        have hcsW := hcs.row (gr_drewN wr n7 none) (RowOk.none 0 0 _) (by decide) (by decide)
        clear hbk hU hRr hg hcs c1 c2 f1 d0 d1
        refine (vcond_any b s p false _ hp hs hsk hbW).mono ?_
        rintro e w8 ⟨kd, ao8, n8, cap8, j8, bd8, rfl, hb8, hg8, HV8⟩
        have hcs8 := hcsW.row hg8 hbW.rowOk (by decide) (by decide)
        have hU8 := hUW.row hg8 hbW.rowOk (by decide)
        have hR8 := hRW.row hg8 hbW.rowOk (by decide)
        have hg08 := gr_trans hgW hg8
        obtain ⟨xs, hown8, hcells8⟩ := hcs8
        have hsz8 := hg08.size
        have hszW := hgW.size
        clear hcsW hUW hRW hgW hbW hg8
        have hgA := World.grownBy_alloc w8 (.cells #[.bool false, .int .i64 kd, .slice ao8 n8 cap8] 166) none
        have hgB := gr_trans hgA (World.grownBy_alloc (w8.alloc (.cells #[.bool false, .int .i64 kd, .slice ao8 n8 cap8] 166)) (.cells #[.bool false, .int .i64 kd, .slice ao8 n8 cap8] 166) none)
        have hrow := RowOk.of ((hown8.alloc (.cells #[.bool false, .int .i64 kd, .slice ao8 n8 cap8] 166)).alloc (.cells #[.bool false, .int .i64 kd, .slice ao8 n8 cap8] 166))
        have hcells9 := VCsCells.row hgB (RowOk.none 0 0 w8) (by decide) acc xs hcells8
        have hU9 := hU8.kept hgB (by simp)
        have hR9 := hR8.kept hgB (by simp)
        have hb9 := hb8.kept hgB (by simp)
        have hg09 := gr_trans hg08 (gr_any hgB (some b))
        obtain ⟨d0, d1⟩ := hU8.c
        have d1A := (hU8.kept hgA (by simp)).c.2
        go_wp2_with (at_builtin; refine wpList_append_own _ rfl _ _ 161 rfl w.heap.size 166 i0 (.agg #[.bool false, .int .i64 0, .slice none 0 0]) 3 40 Tryz.underlying161 hinf hz0 hz1 hz2 rfl (by decide) _ acc.length xs rfl ((hown8.alloc _).alloc _) ⟨w8.heap.size + 1, 0, none⟩ 1 1 [.bool false, .int .i64 kd, .slice ao8 n8 cap8] rfl rfl ?c1 ?c2 ?c3 ?c4 ?c5 ?_)
        case c1 =>
          intro jj u hu
          match jj, hu with
          | 0, hu => simp at hu; subst hu; simp [Addr.add]
          | 1, hu => simp at hu; subst hu; simp [Addr.add]
          | 2, hu => simp at hu; subst hu; simp [Addr.add]
          | n + 3, hu => simp at hu
        case c2 =>
          intro u hu
          simp at hu
          rcases hu with rfl | rfl | rfl <;> rfl
        case c3 => unfold maxLen; omega
        case c4 => omega
        case c5 => simp; omega
        intro v' wA hown hgrow _
        have hUA := hU9.row hgrow hrow (by decide)
        have hRA := hR9.row hgrow hrow (by decide)
        have hbA := hb9.row hgrow hrow (by decide)
        have hgA0 := gr_owns hg09 hgrow hrow
        have hcellsA := VCsCells.row hgrow hrow (by decide) acc xs hcells9
        obtain ⟨aoA, capA, rfl⟩ : ∃ ao cap, v' = .slice ao (acc.length + 1) cap := by
          rcases hown.2 with ⟨h1, h2⟩ | ⟨g, cap, cur, h1, _⟩
          · omega
          · exact ⟨_, _, h1⟩
        have hJ8 : Hid (bd8 = false → ∃ c : Sv.Cond, Sv.cond s.data.toList p = .inr (c, j8) ∧ (c.kind : Int) = kd ∧ VTsAt w.heap.size (.slice ao8 n8 cap8) c.terms wA) := by
          intro hbd
          rcases unhide HV8 with ⟨h1, _⟩ | ⟨_, c, h1, h2, h3⟩
          · rw [hbd] at h1; cases h1
          · exact ⟨c, h1, h2, own_weak ((VTsAt.row h3 hgB (RowOk.none 0 0 w8) (by decide)).row hgrow hrow (by decide)) hszW⟩
        have hJ9 : Hid (bd8 = true → Sv.cond s.data.toList p = .inl j8) := by
          intro hbd
          rcases unhide HV8 with ⟨_, h1⟩ | ⟨h1, _⟩
          · exact h1
          · rw [hbd] at h1; cases h1
        have hj8 : j8 ≤ s.size ∧ (bd8 = false → p < j8) := by
          have hok := Sv.cond_ok s.data.toList p (by rw [size_list]; exact hxs)
          rcases unhide HV8 with ⟨h1, h2⟩ | ⟨h1, c, h2, _⟩
          · rw [h2] at hok; have h3 : j8 ≤ s.data.toList.length := hok; rw [size_list] at h3; exact ⟨h3, fun h => by rw [h1] at h; cases h⟩
          · rw [h2] at hok; obtain ⟨h3, h4⟩ : p < j8 ∧ j8 ≤ s.data.toList.length := hok; rw [size_list] at h4; exact ⟨h4, fun _ => by omega⟩
        obtain ⟨hj8, hj8p⟩ := hj8
        clear hU8 hR8 hb8 hg08 hown8 hcells8 hgB hrow hcells9 hU9 hR9 hb9 hg09 d0 d1 d1A hgrow HV8 hgA
        have kU := gr_set wA U 1 (.slice aoA (acc.length + 1) capA)
        have hUB := hUA.put1 (.slice aoA (acc.length + 1) capA)
        have hRB := hRA.kept kU (by simp; omega)
        have hbB := hbA.kept kU (by simp; omega)
        have hgB0 := gr_own hgA0 kU (Nat.le_of_lt hU0)
        have hcellsB := VCsCells.row kU (RowOk.one2 hUA (Nat.zero_le _)) (by decide) acc xs hcellsA
        have hownB := own_row hown kU (RowOk.one2 hUA (Nat.zero_le _)) (by decide)
        have hJ8B : Hid (bd8 = false → ∃ c : Sv.Cond, Sv.cond s.data.toList p = .inr (c, j8) ∧ (c.kind : Int) = kd ∧ VTsAt w.heap.size (.slice ao8 n8 cap8) c.terms (wA.setCell ⟨U, 1, none⟩ (.slice aoA (acc.length + 1) capA))) := by
          intro hbd
          obtain ⟨c, h1, h2, h3⟩ := unhide hJ8 hbd
          exact ⟨c, h1, h2, h3.row kU (RowOk.one2 hUA (Nat.zero_le _)) (by decide)⟩
        have a1 := hUA.c.2
        have az := hUA.fz 1
        clear hRA hbA hgA0 hcellsA hown kU hJ8
        go_wp2_with fail
        refine (vblanks_any b s j8 bd8 _ hj8 hs hbB).mono ?_
        rintro e wC ⟨rfl, hbC, hgC⟩
        have hUC := hUB.row hgC hbB.rowOk (by decide)
        have hRC := hRB.row hgC hbB.rowOk (by decide)
        have hgC0 := gr_trans hgB0 hgC
        have hcellsC := VCsCells.row hgC hbB.rowOk (by decide) acc xs hcellsB
        have hownC := own_row hownB hgC hbB.rowOk (by decide)
        have hJ8C : Hid (bd8 = false → ∃ c : Sv.Cond, Sv.cond s.data.toList p = .inr (c, j8) ∧ (c.kind : Int) = kd ∧ VTsAt w.heap.size (.slice ao8 n8 cap8) c.terms wC) := by
          intro hbd
          obtain ⟨c, h1, h2, h3⟩ := unhide hJ8B hbd
          exact ⟨c, h1, h2, h3.row hgC hbB.rowOk (by decide)⟩
        clear hUA hUB hRB hbB hgB0 hcellsB hownB hgC hJ8B a1 az
        obtain ⟨pp, hpp⟩ : ∃ pp, (if bd8 = true then j8 else Sv.sk s.data.toList j8) = pp := ⟨_, rfl⟩
        rw [hpp] at hbC
        have hpps : pp ≤ s.size ∧ (bd8 = false → p < pp) := by
          have h1 := Sv.sk_le s.data.toList j8 (by rw [size_list]; exact hj8)
          rw [size_list] at h1
          rw [← hpp]
          cases bd8
          · rw [if_neg (by simp)]; exact ⟨h1.2, fun _ => by have := hj8p rfl; omega⟩
          · rw [if_pos rfl]; exact ⟨hj8, fun h => by cases h⟩
        obtain ⟨hpps, hppp⟩ := hpps
        obtain ⟨ch, hch⟩ : ∃ ch, (if bd8 = true then (0 : UInt8) else Sv.pk s.data.toList pp) = ch := ⟨_, rfl⟩
        have HPP := hide hpp
        have HCH := hide hch
        clear hpp hch
        have HPB := hide hppp
        have HPJ := hide hj8p
        clear hppp hj8p
        have hher := fun n => vhere_any b s pp bd8 (wC.drewN n) hpps hs (hbC.drewN n)
        rw [unhide HCH] at hher
        have hCC : Hid (bd8 = false → ∃ c : Sv.Cond, VCsAt w.heap.size (.slice aoA (acc.length + 1) capA) (acc ++ [⟨false, c.kind, c.terms⟩]) wC ∧ Sv.cond s.data.toList p = .inr (c, j8)) := by
          intro hbd
          obtain ⟨c, h1, h2, h3⟩ := unhide hJ8C hbd
          refine ⟨c, ⟨_, by rw [List.length_append]; exact hownC, ?_⟩, h1⟩
          have h4 := VCsCells.snoc (⟨false, c.kind, c.terms⟩ : Sv.Cond) (.slice ao8 n8 cap8) h3 acc xs hcellsC
          have h5 : ((c.kind : Nat) : Int) = kd := h2
          show VCsCells w.heap.size wC _ (xs ++ [.bool false, .int .i64 kd, .slice ao8 n8 cap8])
          rw [← h5]
          exact h4
        clear hcellsC hownC hJ8C
        have c1 := hbC.c1
        have f1 := hbC.fz 1
        have c2 := hbC.c2
        have f2 := hbC.fz 2
        cases h59 : ch == 59
        · have e59 := (u8_59 ch).trans h59
          have HXN : Hid (bd8 = false → ∃ c : Sv.Cond, VCsAt w.heap.size (.slice aoA (acc.length + 1) capA) (acc ++ [⟨false, c.kind, c.terms⟩]) wC ∧ (match Sv.hdF (m - 1) s.data.toList (acc ++ [⟨false, c.kind, c.terms⟩]) pp with
              | .inl m => .inl m
              | .inr (cs, m) => .inr (⟨Sv.cut s.data.toList i (Sv.nmF 8 s.data.toList i), cs⟩, m)) = r) := by
            intro hbd
            obtain ⟨c, h1, h2⟩ := unhide hCC hbd
            refine ⟨c, h1, ?_⟩
            have h3 := unhide HX
            unfold Sv.hdF at h3
            rw [unhide HNG, if_neg (by simp), h2] at h3
            have h4 := unhide HPP
            rw [hbd, if_neg (by simp)] at h4
            have h5 := unhide HCH
            rw [hbd, if_neg (by simp)] at h5
            have h6 := unhide HPJ hbd
            obtain ⟨m2, rfl⟩ : ∃ m2, m = m2 + 1 := ⟨m - 1, by omega⟩
            rw [← h4, Nat.add_sub_cancel, ← Sv.hd_next m2 _ _ _ (by simp) (by rw [h4, h5]; exact h59)]
            exact h3
          cases h33b : ch == 33
          · have e33b : ((ch.toNat : Int) != 33) = true := u8_ne ch 33 h33b
            cases h40 : ch == 40
            · have e40 : ((ch.toNat : Int) != 40) = true := u8_ne ch 40 h40
              have HIN : Hid (r = .inl pp) := by
                cases hbd : bd8
                · obtain ⟨c, _, h2⟩ := unhide HXN hbd
                  have h4 := unhide HPP
                  rw [hbd, if_neg (by simp)] at h4
                  have h5 := unhide HCH
                  rw [hbd, if_neg (by simp)] at h5
                  rw [Sv.hd_none _ _ _ _ (by rw [← h4]; exact Sv.sk_sk _ _) (by rw [h5]; exact h33b) (by rw [h5]; exact h40)] at h2
                  exact h2.symm
                · have h3 := unhide HX
                  unfold Sv.hdF at h3
                  rw [unhide HNG, if_neg (by simp), unhide hJ9 hbd] at h3
                  have h4 := unhide HPP
                  rw [hbd, if_pos rfl] at h4
                  rw [← h4]
                  exact h3.symm
              go_wp2_with (go_at_call 148; refine (by first | exact hher _ | exact hher 0 : Calls _ _ _ _ _).mono ?_; rintro e w9 ⟨rfl, n9, rfl⟩)
              go_roundw
              case rel => exact ⟨pp, nm, _, true, (hbC.drewN _).set2 true, hpps, (hUC.drewN _).kept (gr_set _ b 2 _) (by simp; omega), (hRC.drewN _).kept (gr_set _ b 2 _) (by simp; omega), gr_trans (gr_trans hgC0 (gr_drewN wC _ _)) (gr_set _ b 2 _), .inl ⟨rfl, unhide HIN, _, _, _, rfl⟩⟩
              case measure =>
                refine Nat.lt_of_le_of_lt (Nat.le_of_eq (((hbC.drewN _).set2 true).ms s.size)) ?_
                rw [unhide HM]; simp
            · have e40 : ((ch.toNat : Int) != 40) = false := u8_eq ch 40 h40
              have hbd : bd8 = false := by
                cases hbd : bd8
                · rfl
                · have h5 := unhide HCH
                  rw [hbd, if_pos rfl] at h5
                  rw [← h5] at h40
                  exact absurd h40 (by decide)
              subst hbd
              have HXN2 := hide (unhide HXN rfl)
              have HPB2 := hide (unhide HPB rfl)
              go_wp2_with (go_at_call 148; refine (by first | exact hher _ | exact hher 0 : Calls _ _ _ _ _).mono ?_; rintro e w9 ⟨rfl, n9, rfl⟩)
              go_roundw
              case rel =>
                obtain ⟨c, h1, h2⟩ := unhide HXN2
                have h4 := unhide HPP
                rw [if_neg (by simp)] at h4
                have h6 := unhide HPB2
                exact ⟨pp, nm, _, false, hbC.drewN _, hpps, hUC.drewN _, hRC.drewN _, gr_trans hgC0 (gr_drewN wC _ _), .inr ⟨rfl, m - 1, _, by omega, by simp; omega, by rw [← h4]; exact Sv.sk_sk _ _, h1.row (gr_drewN wC _ none) (RowOk.none 0 0 _) (by decide) (by decide), unhide HNM, h2⟩⟩
              case measure =>
                refine Nat.lt_of_le_of_lt (Nat.le_of_eq ((hbC.drewN _).ms s.size)) ?_
                have h6 := unhide HPB2
                rw [unhide HM]; simp; omega
          · have e33b : ((ch.toNat : Int) != 33) = false := u8_eq ch 33 h33b
            have hbd : bd8 = false := by
              cases hbd : bd8
              · rfl
              · have h5 := unhide HCH
                rw [hbd, if_pos rfl] at h5
                rw [← h5] at h33b
                exact absurd h33b (by decide)
            subst hbd
            have HXN2 := hide (unhide HXN rfl)
            have HPB2 := hide (unhide HPB rfl)
            go_wp2_with (go_at_call 148; refine (by first | exact hher _ | exact hher 0 : Calls _ _ _ _ _).mono ?_; rintro e w9 ⟨rfl, n9, rfl⟩)
            go_roundw
            case rel =>
              obtain ⟨c, h1, h2⟩ := unhide HXN2
              have h4 := unhide HPP
              rw [if_neg (by simp)] at h4
              have h6 := unhide HPB2
              exact ⟨pp, nm, _, false, hbC.drewN _, hpps, hUC.drewN _, hRC.drewN _, gr_trans hgC0 (gr_drewN wC _ _), .inr ⟨rfl, m - 1, _, by omega, by simp; omega, by rw [← h4]; exact Sv.sk_sk _ _, h1.row (gr_drewN wC _ none) (RowOk.none 0 0 _) (by decide) (by decide), unhide HNM, h2⟩⟩
            case measure =>
              refine Nat.lt_of_le_of_lt (Nat.le_of_eq ((hbC.drewN _).ms s.size)) ?_
              have h6 := unhide HPB2
              rw [unhide HM]; simp; omega
        · have e59 := (u8_59 ch).trans h59
          have hbd : bd8 = false := by
            cases hbd : bd8
            · rfl
            · have h5 := unhide HCH
              rw [hbd, if_pos rfl] at h5
              rw [← h5] at h59
              exact absurd h59 (by decide)
          subst hbd
          have h5 := unhide HCH
          rw [if_neg (by simp)] at h5
          have h4 := unhide HPP
          rw [if_neg (by simp)] at h4
          have hp59 := Sv.byte_pos s.data.toList pp 59 (by decide) (by rw [h5]; exact h59)
          rw [size_list] at hp59
          obtain ⟨c, hc1, hc2⟩ := unhide hCC rfl
          have hr : r = .inr (⟨Sv.cut s.data.toList i (Sv.nmF 8 s.data.toList i), acc ++ [⟨false, c.kind, c.terms⟩]⟩, pp + 1) := by
            have h3 := unhide HX
            unfold Sv.hdF at h3
            rw [unhide HNG, if_neg (by simp), hc2] at h3
            have h6 := unhide HPJ rfl
            obtain ⟨m2, rfl⟩ : ∃ m2, m = m2 + 1 := ⟨m - 1, by omega⟩
            simp only at h3
            rw [Sv.cdF_step, h4, h5, h59, if_pos rfl] at h3
            exact h3.symm
          subst hr
          have HNMo := unhide HNM
          subst HNMo
          clear h4 h5 hCC hc2 HX HNM
          have kk := fun n => gr_set (wC.drewN n) b 1 (.int .i64 ((pp : Int) + 1))
          have hb2 := fun n => (hbC.drewN n).set1 (pp + 1)
          have hU3 := fun n => (hUC.drewN n).kept (kk n) (by simp; omega)
          have hR3 := fun n => (hRC.drewN n).kept (kk n) (by simp; omega)
          have e0 := fun n => (hU3 n).c.1
          have e1 := fun n => (hU3 n).c.2
          have g0 := fun n => (hR3 n).c.1
          have g1 := fun n => (hR3 n).c.2
          have y0 := fun n => (hR3 n).fz 0
          have y1 := fun n => (hR3 n).fz 1
          generalize hcut : Sv.cut s.data.toList i (Sv.nmF 8 s.data.toList i) = nmL at *
          go_wp2_with (go_at_call 148; refine (by first | exact hher _ | exact hher 0 : Calls _ _ _ _ _).mono ?_; rintro e w9 ⟨rfl, n9, rfl⟩)
          have k3 := fun n => gr_set2 ((wC.drewN n).setCell ⟨b, 1, none⟩ (.int .i64 ((pp : Int) + 1))) w.heap.size (.string ⟨nmL.toArray⟩) (.slice aoA (acc.length + 1) capA)
          have g01 := fun n => ((hR3 n).set2 (.string ⟨nmL.toArray⟩) (.slice aoA (acc.length + 1) capA)).c
          exact bodyPost_ret (v := .agg #[.string ⟨nmL.toArray⟩, .slice aoA (acc.length + 1) capA]) (by simp [results, Tryz.results118, go_sem, g01]) rfl ⟨_, by subst hcut; rfl, ((hc1.row (gr_drewN wC _ none) (RowOk.none 0 0 _) (by decide) (by decide)).row (kk _) (hbC.drewN _).rowOk (by decide) (by decide)).row (k3 _) (RowOk.one2 (hR3 _) (Nat.le_refl _)) (by decide) (by decide), (hb2 _).kept (k3 _) (by simp; omega), gr_own (gr_trans (gr_trans hgC0 (gr_drewN wC _ _)) (kk _)) (k3 _) (Nat.le_refl _)⟩
      · cases hl0 : decide (0 < acc.length)
        · have HNG : Hid ((Sv.pk s.data.toList p == 33 && decide (0 < acc.length)) = false) := by show (_ && _) = false; rw [h33, Bool.true_and, hl0]
          have HCQ : Hid (Sv.cond s.data.toList p = Sv.cond s.data.toList p) := rfl
          have e33 := (u8_33 (Sv.pk s.data.toList p)).trans h33
          have hxs : p ≤ s.size := hp
          have hlen : acc.length = 0 := by simpa using hl0
          rw [hlen] at d1
          have HLEN := hide hlen
          clear hlen hl0
          go_wp2_with (go_at_call 148; refine (vhere_w b s p _ hp hs hbk).mono ?_; rintro e w7 ⟨rfl, n7, rfl⟩)
          have hbW := hbk.drewN n7
          have hUW := hU.drewN n7
          have hRW := hRr.drewN n7
          have hgW := gr_trans hg (gr_drewN wr n7 _)
          have hcsW := hcs.row (gr_drewN wr n7 none) (RowOk.none 0 0 _) (by decide) (by decide)
          clear hbk hU hRr hg hcs c1 c2 f1 d0 d1
          refine (vcond_any b s p false _ hp hs hsk hbW).mono ?_
          rintro e w8 ⟨kd, ao8, n8, cap8, j8, bd8, rfl, hb8, hg8, HV8⟩
          have hcs8 := hcsW.row hg8 hbW.rowOk (by decide) (by decide)
          have hU8 := hUW.row hg8 hbW.rowOk (by decide)
          have hR8 := hRW.row hg8 hbW.rowOk (by decide)
          have hg08 := gr_trans hgW hg8
          obtain ⟨xs, hown8, hcells8⟩ := hcs8
          have hsz8 := hg08.size
          have hszW := hgW.size
          clear hcsW hUW hRW hgW hbW hg8
          have hgA := World.grownBy_alloc w8 (.cells #[.bool false, .int .i64 kd, .slice ao8 n8 cap8] 166) none
          have hgB := gr_trans hgA (World.grownBy_alloc (w8.alloc (.cells #[.bool false, .int .i64 kd, .slice ao8 n8 cap8] 166)) (.cells #[.bool false, .int .i64 kd, .slice ao8 n8 cap8] 166) none)
          have hrow := RowOk.of ((hown8.alloc (.cells #[.bool false, .int .i64 kd, .slice ao8 n8 cap8] 166)).alloc (.cells #[.bool false, .int .i64 kd, .slice ao8 n8 cap8] 166))
          have hcells9 := VCsCells.row hgB (RowOk.none 0 0 w8) (by decide) acc xs hcells8
          have hU9 := hU8.kept hgB (by simp)
          have hR9 := hR8.kept hgB (by simp)
          have hb9 := hb8.kept hgB (by simp)
          have hg09 := gr_trans hg08 (gr_any hgB (some b))
          obtain ⟨d0, d1⟩ := hU8.c
          have d1A := (hU8.kept hgA (by simp)).c.2
          go_wp2_with (at_builtin; refine wpList_append_own _ rfl _ _ 161 rfl w.heap.size 166 i0 (.agg #[.bool false, .int .i64 0, .slice none 0 0]) 3 40 Tryz.underlying161 hinf hz0 hz1 hz2 rfl (by decide) _ acc.length xs rfl ((hown8.alloc _).alloc _) ⟨w8.heap.size + 1, 0, none⟩ 1 1 [.bool false, .int .i64 kd, .slice ao8 n8 cap8] rfl rfl ?c1 ?c2 ?c3 ?c4 ?c5 ?_)
          case c1 =>
            intro jj u hu
            match jj, hu with
            | 0, hu => simp at hu; subst hu; simp [Addr.add]
            | 1, hu => simp at hu; subst hu; simp [Addr.add]
            | 2, hu => simp at hu; subst hu; simp [Addr.add]
            | n + 3, hu => simp at hu
          case c2 =>
            intro u hu
            simp at hu
            rcases hu with rfl | rfl | rfl <;> rfl
          case c3 => unfold maxLen; omega
          case c4 => omega
          case c5 => simp; omega
          intro v' wA hown hgrow _
          have hUA := hU9.row hgrow hrow (by decide)
          have hRA := hR9.row hgrow hrow (by decide)
          have hbA := hb9.row hgrow hrow (by decide)
          have hgA0 := gr_owns hg09 hgrow hrow
          have hcellsA := VCsCells.row hgrow hrow (by decide) acc xs hcells9
          obtain ⟨aoA, capA, rfl⟩ : ∃ ao cap, v' = .slice ao (acc.length + 1) cap := by
            rcases hown.2 with ⟨h1, h2⟩ | ⟨g, cap, cur, h1, _⟩
            · omega
            · exact ⟨_, _, h1⟩
          have hJ8 : Hid (bd8 = false → ∃ c : Sv.Cond, Sv.cond s.data.toList p = .inr (c, j8) ∧ (c.kind : Int) = kd ∧ VTsAt w.heap.size (.slice ao8 n8 cap8) c.terms wA) := by
            intro hbd
            rcases unhide HV8 with ⟨h1, _⟩ | ⟨_, c, h1, h2, h3⟩
            · rw [hbd] at h1; cases h1
            · exact ⟨c, h1, h2, own_weak ((VTsAt.row h3 hgB (RowOk.none 0 0 w8) (by decide)).row hgrow hrow (by decide)) hszW⟩
          have hJ9 : Hid (bd8 = true → Sv.cond s.data.toList p = .inl j8) := by
            intro hbd
            rcases unhide HV8 with ⟨_, h1⟩ | ⟨h1, _⟩
            · exact h1
            · rw [hbd] at h1; cases h1
          have hj8 : j8 ≤ s.size ∧ (bd8 = false → p < j8) := by
            have hok := Sv.cond_ok s.data.toList p (by rw [size_list]; exact hxs)
            rcases unhide HV8 with ⟨h1, h2⟩ | ⟨h1, c, h2, _⟩
            · rw [h2] at hok; have h3 : j8 ≤ s.data.toList.length := hok; rw [size_list] at h3; exact ⟨h3, fun h => by rw [h1] at h; cases h⟩
            · rw [h2] at hok; obtain ⟨h3, h4⟩ : p < j8 ∧ j8 ≤ s.data.toList.length := hok; rw [size_list] at h4; exact ⟨h4, fun _ => by omega⟩
          obtain ⟨hj8, hj8p⟩ := hj8
          clear hU8 hR8 hb8 hg08 hown8 hcells8 hgB hrow hcells9 hU9 hR9 hb9 hg09 d0 d1 d1A hgrow HV8 hgA
          have kU := gr_set wA U 1 (.slice aoA (acc.length + 1) capA)
          have hUB := hUA.put1 (.slice aoA (acc.length + 1) capA)
          have hRB := hRA.kept kU (by simp; omega)
          have hbB := hbA.kept kU (by simp; omega)
          have hgB0 := gr_own hgA0 kU (Nat.le_of_lt hU0)
          have hcellsB := VCsCells.row kU (RowOk.one2 hUA (Nat.zero_le _)) (by decide) acc xs hcellsA
          have hownB := own_row hown kU (RowOk.one2 hUA (Nat.zero_le _)) (by decide)
          have hJ8B : Hid (bd8 = false → ∃ c : Sv.Cond, Sv.cond s.data.toList p = .inr (c, j8) ∧ (c.kind : Int) = kd ∧ VTsAt w.heap.size (.slice ao8 n8 cap8) c.terms (wA.setCell ⟨U, 1, none⟩ (.slice aoA (acc.length + 1) capA))) := by
            intro hbd
            obtain ⟨c, h1, h2, h3⟩ := unhide hJ8 hbd
            exact ⟨c, h1, h2, h3.row kU (RowOk.one2 hUA (Nat.zero_le _)) (by decide)⟩
          have a1 := hUA.c.2
          have az := hUA.fz 1
          clear hRA hbA hgA0 hcellsA hown kU hJ8
          go_wp2_with fail
          refine (vblanks_any b s j8 bd8 _ hj8 hs hbB).mono ?_
          rintro e wC ⟨rfl, hbC, hgC⟩
          have hUC := hUB.row hgC hbB.rowOk (by decide)
          have hRC := hRB.row hgC hbB.rowOk (by decide)
          have hgC0 := gr_trans hgB0 hgC
          have hcellsC := VCsCells.row hgC hbB.rowOk (by decide) acc xs hcellsB
          have hownC := own_row hownB hgC hbB.rowOk (by decide)
          have hJ8C : Hid (bd8 = false → ∃ c : Sv.Cond, Sv.cond s.data.toList p = .inr (c, j8) ∧ (c.kind : Int) = kd ∧ VTsAt w.heap.size (.slice ao8 n8 cap8) c.terms wC) := by
            intro hbd
            obtain ⟨c, h1, h2, h3⟩ := unhide hJ8B hbd
            exact ⟨c, h1, h2, h3.row hgC hbB.rowOk (by decide)⟩
          clear hUA hUB hRB hbB hgB0 hcellsB hownB hgC hJ8B a1 az
          obtain ⟨pp, hpp⟩ : ∃ pp, (if bd8 = true then j8 else Sv.sk s.data.toList j8) = pp := ⟨_, rfl⟩
          rw [hpp] at hbC
          have hpps : pp ≤ s.size ∧ (bd8 = false → p < pp) := by
            have h1 := Sv.sk_le s.data.toList j8 (by rw [size_list]; exact hj8)
            rw [size_list] at h1
            rw [← hpp]
            cases bd8
            · rw [if_neg (by simp)]; exact ⟨h1.2, fun _ => by have := hj8p rfl; omega⟩
            · rw [if_pos rfl]; exact ⟨hj8, fun h => by cases h⟩
          obtain ⟨hpps, hppp⟩ := hpps
          obtain ⟨ch, hch⟩ : ∃ ch, (if bd8 = true then (0 : UInt8) else Sv.pk s.data.toList pp) = ch := ⟨_, rfl⟩
          have HPP := hide hpp
          have HCH := hide hch
          clear hpp hch
          have HPB := hide hppp
          have HPJ := hide hj8p
          clear hppp hj8p
          have hher := fun n => vhere_any b s pp bd8 (wC.drewN n) hpps hs (hbC.drewN n)
          rw [unhide HCH] at hher
          have hCC : Hid (bd8 = false → ∃ c : Sv.Cond, VCsAt w.heap.size (.slice aoA (acc.length + 1) capA) (acc ++ [⟨false, c.kind, c.terms⟩]) wC ∧ Sv.cond s.data.toList p = .inr (c, j8)) := by
            intro hbd
            obtain ⟨c, h1, h2, h3⟩ := unhide hJ8C hbd
            refine ⟨c, ⟨_, by rw [List.length_append]; exact hownC, ?_⟩, h1⟩
            have h4 := VCsCells.snoc (⟨false, c.kind, c.terms⟩ : Sv.Cond) (.slice ao8 n8 cap8) h3 acc xs hcellsC
            have h5 : ((c.kind : Nat) : Int) = kd := h2
            show VCsCells w.heap.size wC _ (xs ++ [.bool false, .int .i64 kd, .slice ao8 n8 cap8])
            rw [← h5]
            exact h4
          clear hcellsC hownC hJ8C
          have c1 := hbC.c1
          have f1 := hbC.fz 1
          have c2 := hbC.c2
          have f2 := hbC.fz 2
          cases h59 : ch == 59
          · have e59 := (u8_59 ch).trans h59
            have HXN : Hid (bd8 = false → ∃ c : Sv.Cond, VCsAt w.heap.size (.slice aoA (acc.length + 1) capA) (acc ++ [⟨false, c.kind, c.terms⟩]) wC ∧ (match Sv.hdF (m - 1) s.data.toList (acc ++ [⟨false, c.kind, c.terms⟩]) pp with
                | .inl m => .inl m
                | .inr (cs, m) => .inr (⟨Sv.cut s.data.toList i (Sv.nmF 8 s.data.toList i), cs⟩, m)) = r) := by
              intro hbd
              obtain ⟨c, h1, h2⟩ := unhide hCC hbd
              refine ⟨c, h1, ?_⟩
              have h3 := unhide HX
              unfold Sv.hdF at h3
              rw [unhide HNG, if_neg (by simp), h2] at h3
              have h4 := unhide HPP
              rw [hbd, if_neg (by simp)] at h4
              have h5 := unhide HCH
              rw [hbd, if_neg (by simp)] at h5
              have h6 := unhide HPJ hbd
              obtain ⟨m2, rfl⟩ : ∃ m2, m = m2 + 1 := ⟨m - 1, by omega⟩
              rw [← h4, Nat.add_sub_cancel, ← Sv.hd_next m2 _ _ _ (by simp) (by rw [h4, h5]; exact h59)]
              exact h3
            cases h33b : ch == 33
            · have e33b : ((ch.toNat : Int) != 33) = true := u8_ne ch 33 h33b
              cases h40 : ch == 40
              · have e40 : ((ch.toNat : Int) != 40) = true := u8_ne ch 40 h40
                have HIN : Hid (r = .inl pp) := by
                  cases hbd : bd8
                  · obtain ⟨c, _, h2⟩ := unhide HXN hbd
                    have h4 := unhide HPP
                    rw [hbd, if_neg (by simp)] at h4
                    have h5 := unhide HCH
                    rw [hbd, if_neg (by simp)] at h5
                    rw [Sv.hd_none _ _ _ _ (by rw [← h4]; exact Sv.sk_sk _ _) (by rw [h5]; exact h33b) (by rw [h5]; exact h40)] at h2
                    exact h2.symm
                  · have h3 := unhide HX
                    unfold Sv.hdF at h3
                    rw [unhide HNG, if_neg (by simp), unhide hJ9 hbd] at h3
                    have h4 := unhide HPP
                    rw [hbd, if_pos rfl] at h4
                    rw [← h4]
                    exact h3.symm
                go_wp2_with (go_at_call 148; refine (by first | exact hher _ | exact hher 0 : Calls _ _ _ _ _).mono ?_; rintro e w9 ⟨rfl, n9, rfl⟩)
                go_roundw
                case rel => exact ⟨pp, nm, _, true, (hbC.drewN _).set2 true, hpps, (hUC.drewN _).kept (gr_set _ b 2 _) (by simp; omega), (hRC.drewN _).kept (gr_set _ b 2 _) (by simp; omega), gr_trans (gr_trans hgC0 (gr_drewN wC _ _)) (gr_set _ b 2 _), .inl ⟨rfl, unhide HIN, _, _, _, rfl⟩⟩
                case measure =>
                  refine Nat.lt_of_le_of_lt (Nat.le_of_eq (((hbC.drewN _).set2 true).ms s.size)) ?_
                  rw [unhide HM]; simp
              · have e40 : ((ch.toNat : Int) != 40) = false := u8_eq ch 40 h40
                have hbd : bd8 = false := by
                  cases hbd : bd8
                  · rfl
                  · have h5 := unhide HCH
                    rw [hbd, if_pos rfl] at h5
                    rw [← h5] at h40
                    exact absurd h40 (by decide)
                subst hbd
                have HXN2 := hide (unhide HXN rfl)
                have HPB2 := hide (unhide HPB rfl)
                go_wp2_with (go_at_call 148; refine (by first | exact hher _ | exact hher 0 : Calls _ _ _ _ _).mono ?_; rintro e w9 ⟨rfl, n9, rfl⟩)
                go_roundw
                case rel =>
                  obtain ⟨c, h1, h2⟩ := unhide HXN2
                  have h4 := unhide HPP
                  rw [if_neg (by simp)] at h4
                  have h6 := unhide HPB2
                  exact ⟨pp, nm, _, false, hbC.drewN _, hpps, hUC.drewN _, hRC.drewN _, gr_trans hgC0 (gr_drewN wC _ _), .inr ⟨rfl, m - 1, _, by omega, by simp; omega, by rw [← h4]; exact Sv.sk_sk _ _, h1.row (gr_drewN wC _ none) (RowOk.none 0 0 _) (by decide) (by decide), unhide HNM, h2⟩⟩
                case measure =>
                  refine Nat.lt_of_le_of_lt (Nat.le_of_eq ((hbC.drewN _).ms s.size)) ?_
                  have h6 := unhide HPB2
                  rw [unhide HM]; simp; omega
            · have e33b : ((ch.toNat : Int) != 33) = false := u8_eq ch 33 h33b
              have hbd : bd8 = false := by
                cases hbd : bd8
                · rfl
                · have h5 := unhide HCH
                  rw [hbd, if_pos rfl] at h5
                  rw [← h5] at h33b
                  exact absurd h33b (by decide)
              subst hbd
              have HXN2 := hide (unhide HXN rfl)
              have HPB2 := hide (unhide HPB rfl)
              go_wp2_with (go_at_call 148; refine (by first | exact hher _ | exact hher 0 : Calls _ _ _ _ _).mono ?_; rintro e w9 ⟨rfl, n9, rfl⟩)
              go_roundw
              case rel =>
                obtain ⟨c, h1, h2⟩ := unhide HXN2
                have h4 := unhide HPP
                rw [if_neg (by simp)] at h4
                have h6 := unhide HPB2
                exact ⟨pp, nm, _, false, hbC.drewN _, hpps, hUC.drewN _, hRC.drewN _, gr_trans hgC0 (gr_drewN wC _ _), .inr ⟨rfl, m - 1, _, by omega, by simp; omega, by rw [← h4]; exact Sv.sk_sk _ _, h1.row (gr_drewN wC _ none) (RowOk.none 0 0 _) (by decide) (by decide), unhide HNM, h2⟩⟩
              case measure =>
                refine Nat.lt_of_le_of_lt (Nat.le_of_eq ((hbC.drewN _).ms s.size)) ?_
                have h6 := unhide HPB2
                rw [unhide HM]; simp; omega
          · have e59 := (u8_59 ch).trans h59
            have hbd : bd8 = false := by
              cases hbd : bd8
              · rfl
              · have h5 := unhide HCH
                rw [hbd, if_pos rfl] at h5
                rw [← h5] at h59
                exact absurd h59 (by decide)
            subst hbd
            have h5 := unhide HCH
            rw [if_neg (by simp)] at h5
            have h4 := unhide HPP
            rw [if_neg (by simp)] at h4
            have hp59 := Sv.byte_pos s.data.toList pp 59 (by decide) (by rw [h5]; exact h59)
            rw [size_list] at hp59
            obtain ⟨c, hc1, hc2⟩ := unhide hCC rfl
            have hr : r = .inr (⟨Sv.cut s.data.toList i (Sv.nmF 8 s.data.toList i), acc ++ [⟨false, c.kind, c.terms⟩]⟩, pp + 1) := by
              have h3 := unhide HX
              unfold Sv.hdF at h3
              rw [unhide HNG, if_neg (by simp), hc2] at h3
              have h6 := unhide HPJ rfl
              obtain ⟨m2, rfl⟩ : ∃ m2, m = m2 + 1 := ⟨m - 1, by omega⟩
              simp only at h3
              rw [Sv.cdF_step, h4, h5, h59, if_pos rfl] at h3
              exact h3.symm
            subst hr
            have HNMo := unhide HNM
            subst HNMo
            clear h4 h5 hCC hc2 HX HNM
            have kk := fun n => gr_set (wC.drewN n) b 1 (.int .i64 ((pp : Int) + 1))
            have hb2 := fun n => (hbC.drewN n).set1 (pp + 1)
            have hU3 := fun n => (hUC.drewN n).kept (kk n) (by simp; omega)
            have hR3 := fun n => (hRC.drewN n).kept (kk n) (by simp; omega)
            have e0 := fun n => (hU3 n).c.1
            have e1 := fun n => (hU3 n).c.2
            have g0 := fun n => (hR3 n).c.1
            have g1 := fun n => (hR3 n).c.2
            have y0 := fun n => (hR3 n).fz 0
            have y1 := fun n => (hR3 n).fz 1
            generalize hcut : Sv.cut s.data.toList i (Sv.nmF 8 s.data.toList i) = nmL at *
            go_wp2_with (go_at_call 148; refine (by first | exact hher _ | exact hher 0 : Calls _ _ _ _ _).mono ?_; rintro e w9 ⟨rfl, n9, rfl⟩)
            have k3 := fun n => gr_set2 ((wC.drewN n).setCell ⟨b, 1, none⟩ (.int .i64 ((pp : Int) + 1))) w.heap.size (.string ⟨nmL.toArray⟩) (.slice aoA (acc.length + 1) capA)
            have g01 := fun n => ((hR3 n).set2 (.string ⟨nmL.toArray⟩) (.slice aoA (acc.length + 1) capA)).c
            exact bodyPost_ret (v := .agg #[.string ⟨nmL.toArray⟩, .slice aoA (acc.length + 1) capA]) (by simp [results, Tryz.results118, go_sem, g01]) rfl ⟨_, by subst hcut; rfl, ((hc1.row (gr_drewN wC _ none) (RowOk.none 0 0 _) (by decide) (by decide)).row (kk _) (hbC.drewN _).rowOk (by decide) (by decide)).row (k3 _) (RowOk.one2 (hR3 _) (Nat.le_refl _)) (by decide) (by decide), (hb2 _).kept (k3 _) (by simp; omega), gr_own (gr_trans (gr_trans hgC0 (gr_drewN wC _ _)) (kk _)) (k3 _) (Nat.le_refl _)⟩
        · have HNG : Hid ((Sv.pk s.data.toList p == 33 && decide (0 < acc.length)) = true) := by show (_ && _) = true; rw [h33, hl0]; rfl
          have e33 := (u8_33 (Sv.pk s.data.toList p)).trans h33
          have hl2 : 0 < acc.length := by simpa using hl0
          obtain ⟨L, hlen⟩ : ∃ L, acc.length = L + 1 := ⟨acc.length - 1, by omega⟩
          clear hl2
          rw [hlen] at d1
          have HLEN := hide hlen
          clear hlen hl0
          have hp1 := Sv.byte_pos _ _ 33 (by decide) h33
          rw [size_list] at hp1
          obtain ⟨x, hx⟩ : ∃ x, Sv.sk s.data.toList (p + 1) = x := ⟨_, rfl⟩
          have hxl := Sv.sk_le s.data.toList (p + 1) (by rw [size_list]; exact hp1)
          rw [size_list, hx] at hxl
          obtain ⟨hpx, hxs⟩ := hxl
          have HCQ : Hid (Sv.cond s.data.toList (p + 1) = Sv.cond s.data.toList x) := by show Sv.cond _ (p + 1) = _; rw [← hx, Sv.cond_sk]
          have hskx : Sv.sk s.data.toList x = x := by rw [← hx]; exact Sv.sk_sk _ _
          have HXE := hide hx
          clear hx
          go_wp2_with (go_at_call 148; refine (vhere_w b s p _ hp hs hbk).mono ?_; rintro e w7 ⟨rfl, n7, rfl⟩)
          have kk := gr_set (wr.drewN n7) b 1 (.int .i64 ((p : Int) + 1))
          have hbV : VAt b s (p + 1) false ((wr.drewN n7).setCell ⟨b, 1, none⟩ (.int .i64 ((p : Int) + 1))) := (hbk.drewN n7).set1 (p + 1)
          have hUV := (hU.drewN n7).kept kk (by simp; omega)
          have hRV := (hRr.drewN n7).kept kk (by simp; omega)
          have hgV := gr_trans (gr_trans hg (gr_drewN wr n7 _)) kk
          have hcsV := (hcs.row (gr_drewN wr n7 none) (RowOk.none 0 0 _) (by decide) (by decide)).row kk (hbk.drewN n7).rowOk (by decide) (by decide)
          refine (vblanks_w b s (p + 1) _ hp1 hs hbV).mono ?_
          rintro e wW ⟨rfl, hbW, hgw⟩
          rw [unhide HXE] at hbW
          have hUW := hUV.row hgw hbV.rowOk (by decide)
          have hRW := hRV.row hgw hbV.rowOk (by decide)
          have hgW := gr_trans hgV hgw
          have hcsW := hcsV.row hgw hbV.rowOk (by decide) (by decide)
          clear hbk hU hRr hg hcs c1 c2 f1 d0 d1 hbV hUV hRV hgV hcsV hgw kk
          go_wp2_with fail
          refine (vcond_any b s x true _ hxs hs hskx hbW).mono ?_
          rintro e w8 ⟨kd, ao8, n8, cap8, j8, bd8, rfl, hb8, hg8, HV8⟩
          have hcs8 := hcsW.row hg8 hbW.rowOk (by decide) (by decide)
          have hU8 := hUW.row hg8 hbW.rowOk (by decide)
          have hR8 := hRW.row hg8 hbW.rowOk (by decide)
          have hg08 := gr_trans hgW hg8
          obtain ⟨xs, hown8, hcells8⟩ := hcs8
          have hsz8 := hg08.size
          have hszW := hgW.size
          clear hcsW hUW hRW hgW hbW hg8
          have hgA := World.grownBy_alloc w8 (.cells #[.bool true, .int .i64 kd, .slice ao8 n8 cap8] 166) none
          have hgB := gr_trans hgA (World.grownBy_alloc (w8.alloc (.cells #[.bool true, .int .i64 kd, .slice ao8 n8 cap8] 166)) (.cells #[.bool true, .int .i64 kd, .slice ao8 n8 cap8] 166) none)
          have hrow := RowOk.of ((hown8.alloc (.cells #[.bool true, .int .i64 kd, .slice ao8 n8 cap8] 166)).alloc (.cells #[.bool true, .int .i64 kd, .slice ao8 n8 cap8] 166))
          have hcells9 := VCsCells.row hgB (RowOk.none 0 0 w8) (by decide) acc xs hcells8
          have hU9 := hU8.kept hgB (by simp)
          have hR9 := hR8.kept hgB (by simp)
          have hb9 := hb8.kept hgB (by simp)
          have hg09 := gr_trans hg08 (gr_any hgB (some b))
          obtain ⟨d0, d1⟩ := hU8.c
          have d1A := (hU8.kept hgA (by simp)).c.2
          go_wp2_with (at_builtin; refine wpList_append_own _ rfl _ _ 161 rfl w.heap.size 166 i0 (.agg #[.bool false, .int .i64 0, .slice none 0 0]) 3 40 Tryz.underlying161 hinf hz0 hz1 hz2 rfl (by decide) _ acc.length xs rfl ((hown8.alloc _).alloc _) ⟨w8.heap.size + 1, 0, none⟩ 1 1 [.bool true, .int .i64 kd, .slice ao8 n8 cap8] rfl rfl ?c1 ?c2 ?c3 ?c4 ?c5 ?_)
          case c1 =>
            intro jj u hu
            match jj, hu with
            | 0, hu => simp at hu; subst hu; simp [Addr.add]
            | 1, hu => simp at hu; subst hu; simp [Addr.add]
            | 2, hu => simp at hu; subst hu; simp [Addr.add]
            | n + 3, hu => simp at hu
          case c2 =>
            intro u hu
            simp at hu
            rcases hu with rfl | rfl | rfl <;> rfl
          case c3 => unfold maxLen; omega
          case c4 => omega
          case c5 => simp; omega
          intro v' wA hown hgrow _
          have hUA := hU9.row hgrow hrow (by decide)
          have hRA := hR9.row hgrow hrow (by decide)
          have hbA := hb9.row hgrow hrow (by decide)
          have hgA0 := gr_owns hg09 hgrow hrow
          have hcellsA := VCsCells.row hgrow hrow (by decide) acc xs hcells9
          obtain ⟨aoA, capA, rfl⟩ : ∃ ao cap, v' = .slice ao (acc.length + 1) cap := by
            rcases hown.2 with ⟨h1, h2⟩ | ⟨g, cap, cur, h1, _⟩
            · omega
            · exact ⟨_, _, h1⟩
          have hJ8 : Hid (bd8 = false → ∃ c : Sv.Cond, Sv.cond s.data.toList x = .inr (c, j8) ∧ (c.kind : Int) = kd ∧ VTsAt w.heap.size (.slice ao8 n8 cap8) c.terms wA) := by
            intro hbd
            rcases unhide HV8 with ⟨h1, _⟩ | ⟨_, c, h1, h2, h3⟩
            · rw [hbd] at h1; cases h1
            · exact ⟨c, h1, h2, own_weak ((VTsAt.row h3 hgB (RowOk.none 0 0 w8) (by decide)).row hgrow hrow (by decide)) hszW⟩
          have hJ9 : Hid (bd8 = true → Sv.cond s.data.toList x = .inl j8) := by
            intro hbd
            rcases unhide HV8 with ⟨_, h1⟩ | ⟨h1, _⟩
            · exact h1
            · rw [hbd] at h1; cases h1
          have hj8 : j8 ≤ s.size ∧ (bd8 = false → p < j8) := by
            have hok := Sv.cond_ok s.data.toList x (by rw [size_list]; exact hxs)
            rcases unhide HV8 with ⟨h1, h2⟩ | ⟨h1, c, h2, _⟩
            · rw [h2] at hok; have h3 : j8 ≤ s.data.toList.length := hok; rw [size_list] at h3; exact ⟨h3, fun h => by rw [h1] at h; cases h⟩
            · rw [h2] at hok; obtain ⟨h3, h4⟩ : x < j8 ∧ j8 ≤ s.data.toList.length := hok; rw [size_list] at h4; exact ⟨h4, fun _ => by omega⟩
          obtain ⟨hj8, hj8p⟩ := hj8
          clear hU8 hR8 hb8 hg08 hown8 hcells8 hgB hrow hcells9 hU9 hR9 hb9 hg09 d0 d1 d1A hgrow HV8 hgA
          have kU := gr_set wA U 1 (.slice aoA (acc.length + 1) capA)
          have hUB := hUA.put1 (.slice aoA (acc.length + 1) capA)
          have hRB := hRA.kept kU (by simp; omega)
          have hbB := hbA.kept kU (by simp; omega)
          have hgB0 := gr_own hgA0 kU (Nat.le_of_lt hU0)
          have hcellsB := VCsCells.row kU (RowOk.one2 hUA (Nat.zero_le _)) (by decide) acc xs hcellsA
          have hownB := own_row hown kU (RowOk.one2 hUA (Nat.zero_le _)) (by decide)
          have hJ8B : Hid (bd8 = false → ∃ c : Sv.Cond, Sv.cond s.data.toList x = .inr (c, j8) ∧ (c.kind : Int) = kd ∧ VTsAt w.heap.size (.slice ao8 n8 cap8) c.terms (wA.setCell ⟨U, 1, none⟩ (.slice aoA (acc.length + 1) capA))) := by
            intro hbd
            obtain ⟨c, h1, h2, h3⟩ := unhide hJ8 hbd
            exact ⟨c, h1, h2, h3.row kU (RowOk.one2 hUA (Nat.zero_le _)) (by decide)⟩
          have a1 := hUA.c.2
          have az := hUA.fz 1
          clear hRA hbA hgA0 hcellsA hown kU hJ8
          go_wp2_with fail
          refine (vblanks_any b s j8 bd8 _ hj8 hs hbB).mono ?_
          rintro e wC ⟨rfl, hbC, hgC⟩
          have hUC := hUB.row hgC hbB.rowOk (by decide)
          have hRC := hRB.row hgC hbB.rowOk (by decide)
          have hgC0 := gr_trans hgB0 hgC
          have hcellsC := VCsCells.row hgC hbB.rowOk (by decide) acc xs hcellsB
          have hownC := own_row hownB hgC hbB.rowOk (by decide)
          have hJ8C : Hid (bd8 = false → ∃ c : Sv.Cond, Sv.cond s.data.toList x = .inr (c, j8) ∧ (c.kind : Int) = kd ∧ VTsAt w.heap.size (.slice ao8 n8 cap8) c.terms wC) := by
            intro hbd
            obtain ⟨c, h1, h2, h3⟩ := unhide hJ8B hbd
            exact ⟨c, h1, h2, h3.row hgC hbB.rowOk (by decide)⟩
          clear hUA hUB hRB hbB hgB0 hcellsB hownB hgC hJ8B a1 az
          obtain ⟨pp, hpp⟩ : ∃ pp, (if bd8 = true then j8 else Sv.sk s.data.toList j8) = pp := ⟨_, rfl⟩
          rw [hpp] at hbC
          have hpps : pp ≤ s.size ∧ (bd8 = false → p < pp) := by
            have h1 := Sv.sk_le s.data.toList j8 (by rw [size_list]; exact hj8)
            rw [size_list] at h1
            rw [← hpp]
            cases bd8
            · rw [if_neg (by simp)]; exact ⟨h1.2, fun _ => by have := hj8p rfl; omega⟩
            · rw [if_pos rfl]; exact ⟨hj8, fun h => by cases h⟩
          obtain ⟨hpps, hppp⟩ := hpps
          obtain ⟨ch, hch⟩ : ∃ ch, (if bd8 = true then (0 : UInt8) else Sv.pk s.data.toList pp) = ch := ⟨_, rfl⟩
          have HPP := hide hpp
          have HCH := hide hch
          clear hpp hch
          have HPB := hide hppp
          have HPJ := hide hj8p
          clear hppp hj8p
          have hher := fun n => vhere_any b s pp bd8 (wC.drewN n) hpps hs (hbC.drewN n)
          rw [unhide HCH] at hher
          have hCC : Hid (bd8 = false → ∃ c : Sv.Cond, VCsAt w.heap.size (.slice aoA (acc.length + 1) capA) (acc ++ [⟨true, c.kind, c.terms⟩]) wC ∧ Sv.cond s.data.toList x = .inr (c, j8)) := by
            intro hbd
            obtain ⟨c, h1, h2, h3⟩ := unhide hJ8C hbd
            refine ⟨c, ⟨_, by rw [List.length_append]; exact hownC, ?_⟩, h1⟩
            have h4 := VCsCells.snoc (⟨true, c.kind, c.terms⟩ : Sv.Cond) (.slice ao8 n8 cap8) h3 acc xs hcellsC
            have h5 : ((c.kind : Nat) : Int) = kd := h2
            show VCsCells w.heap.size wC _ (xs ++ [.bool true, .int .i64 kd, .slice ao8 n8 cap8])
            rw [← h5]
            exact h4
          clear hcellsC hownC hJ8C
          have c1 := hbC.c1
          have f1 := hbC.fz 1
          have c2 := hbC.c2
          have f2 := hbC.fz 2
          cases h59 : ch == 59
          · have e59 := (u8_59 ch).trans h59
            have HXN : Hid (bd8 = false → ∃ c : Sv.Cond, VCsAt w.heap.size (.slice aoA (acc.length + 1) capA) (acc ++ [⟨true, c.kind, c.terms⟩]) wC ∧ (match Sv.hdF (m - 1) s.data.toList (acc ++ [⟨true, c.kind, c.terms⟩]) pp with
                | .inl m => .inl m
                | .inr (cs, m) => .inr (⟨Sv.cut s.data.toList i (Sv.nmF 8 s.data.toList i), cs⟩, m)) = r) := by
              intro hbd
              obtain ⟨c, h1, h2⟩ := unhide hCC hbd
              refine ⟨c, h1, ?_⟩
              have h3 := unhide HX
              unfold Sv.hdF at h3
              rw [unhide HNG, if_pos rfl, unhide HCQ, h2] at h3
              have h4 := unhide HPP
              rw [hbd, if_neg (by simp)] at h4
              have h5 := unhide HCH
              rw [hbd, if_neg (by simp)] at h5
              have h6 := unhide HPJ hbd
              obtain ⟨m2, rfl⟩ : ∃ m2, m = m2 + 1 := ⟨m - 1, by omega⟩
              rw [← h4, Nat.add_sub_cancel, ← Sv.hd_next m2 _ _ _ (by simp) (by rw [h4, h5]; exact h59)]
              exact h3
            cases h33b : ch == 33
            · have e33b : ((ch.toNat : Int) != 33) = true := u8_ne ch 33 h33b
              cases h40 : ch == 40
              · have e40 : ((ch.toNat : Int) != 40) = true := u8_ne ch 40 h40
                have HIN : Hid (r = .inl pp) := by
                  cases hbd : bd8
                  · obtain ⟨c, _, h2⟩ := unhide HXN hbd
                    have h4 := unhide HPP
                    rw [hbd, if_neg (by simp)] at h4
                    have h5 := unhide HCH
                    rw [hbd, if_neg (by simp)] at h5
                    rw [Sv.hd_none _ _ _ _ (by rw [← h4]; exact Sv.sk_sk _ _) (by rw [h5]; exact h33b) (by rw [h5]; exact h40)] at h2
                    exact h2.symm
                  · have h3 := unhide HX
                    unfold Sv.hdF at h3
                    rw [unhide HNG, if_pos rfl, unhide HCQ, unhide hJ9 hbd] at h3
                    have h4 := unhide HPP
                    rw [hbd, if_pos rfl] at h4
                    rw [← h4]
                    exact h3.symm
                go_wp2_with (go_at_call 148; refine (by first | exact hher _ | exact hher 0 : Calls _ _ _ _ _).mono ?_; rintro e w9 ⟨rfl, n9, rfl⟩)
                go_roundw
                case rel => exact ⟨pp, nm, _, true, (hbC.drewN _).set2 true, hpps, (hUC.drewN _).kept (gr_set _ b 2 _) (by simp; omega), (hRC.drewN _).kept (gr_set _ b 2 _) (by simp; omega), gr_trans (gr_trans hgC0 (gr_drewN wC _ _)) (gr_set _ b 2 _), .inl ⟨rfl, unhide HIN, _, _, _, rfl⟩⟩
                case measure =>
                  refine Nat.lt_of_le_of_lt (Nat.le_of_eq (((hbC.drewN _).set2 true).ms s.size)) ?_
                  rw [unhide HM]; simp
              · have e40 : ((ch.toNat : Int) != 40) = false := u8_eq ch 40 h40
                have hbd : bd8 = false := by
                  cases hbd : bd8
                  · rfl
                  · have h5 := unhide HCH
                    rw [hbd, if_pos rfl] at h5
                    rw [← h5] at h40
                    exact absurd h40 (by decide)
                subst hbd
                have HXN2 := hide (unhide HXN rfl)
                have HPB2 := hide (unhide HPB rfl)
                go_wp2_with (go_at_call 148; refine (by first | exact hher _ | exact hher 0 : Calls _ _ _ _ _).mono ?_; rintro e w9 ⟨rfl, n9, rfl⟩)
                go_roundw
                case rel =>
                  obtain ⟨c, h1, h2⟩ := unhide HXN2
                  have h4 := unhide HPP
                  rw [if_neg (by simp)] at h4
                  have h6 := unhide HPB2
                  exact ⟨pp, nm, _, false, hbC.drewN _, hpps, hUC.drewN _, hRC.drewN _, gr_trans hgC0 (gr_drewN wC _ _), .inr ⟨rfl, m - 1, _, by omega, by simp; omega, by rw [← h4]; exact Sv.sk_sk _ _, h1.row (gr_drewN wC _ none) (RowOk.none 0 0 _) (by decide) (by decide), unhide HNM, h2⟩⟩
                case measure =>
                  refine Nat.lt_of_le_of_lt (Nat.le_of_eq ((hbC.drewN _).ms s.size)) ?_
                  have h6 := unhide HPB2
                  rw [unhide HM]; simp; omega
            · have e33b : ((ch.toNat : Int) != 33) = false := u8_eq ch 33 h33b
              have hbd : bd8 = false := by
                cases hbd : bd8
                · rfl
                · have h5 := unhide HCH
                  rw [hbd, if_pos rfl] at h5
                  rw [← h5] at h33b
                  exact absurd h33b (by decide)
              subst hbd
              have HXN2 := hide (unhide HXN rfl)
              have HPB2 := hide (unhide HPB rfl)
              go_wp2_with (go_at_call 148; refine (by first | exact hher _ | exact hher 0 : Calls _ _ _ _ _).mono ?_; rintro e w9 ⟨rfl, n9, rfl⟩)
              go_roundw
              case rel =>
                obtain ⟨c, h1, h2⟩ := unhide HXN2
                have h4 := unhide HPP
                rw [if_neg (by simp)] at h4
                have h6 := unhide HPB2
                exact ⟨pp, nm, _, false, hbC.drewN _, hpps, hUC.drewN _, hRC.drewN _, gr_trans hgC0 (gr_drewN wC _ _), .inr ⟨rfl, m - 1, _, by omega, by simp; omega, by rw [← h4]; exact Sv.sk_sk _ _, h1.row (gr_drewN wC _ none) (RowOk.none 0 0 _) (by decide) (by decide), unhide HNM, h2⟩⟩
              case measure =>
                refine Nat.lt_of_le_of_lt (Nat.le_of_eq ((hbC.drewN _).ms s.size)) ?_
                have h6 := unhide HPB2
                rw [unhide HM]; simp; omega
          · have e59 := (u8_59 ch).trans h59
            have hbd : bd8 = false := by
              cases hbd : bd8
              · rfl
              · have h5 := unhide HCH
                rw [hbd, if_pos rfl] at h5
                rw [← h5] at h59
                exact absurd h59 (by decide)
            subst hbd
            have h5 := unhide HCH
            rw [if_neg (by simp)] at h5
            have h4 := unhide HPP
            rw [if_neg (by simp)] at h4
            have hp59 := Sv.byte_pos s.data.toList pp 59 (by decide) (by rw [h5]; exact h59)
            rw [size_list] at hp59
            obtain ⟨c, hc1, hc2⟩ := unhide hCC rfl
            have hr : r = .inr (⟨Sv.cut s.data.toList i (Sv.nmF 8 s.data.toList i), acc ++ [⟨true, c.kind, c.terms⟩]⟩, pp + 1) := by
              have h3 := unhide HX
              unfold Sv.hdF at h3
              rw [unhide HNG, if_pos rfl, unhide HCQ, hc2] at h3
              have h6 := unhide HPJ rfl
              obtain ⟨m2, rfl⟩ : ∃ m2, m = m2 + 1 := ⟨m - 1, by omega⟩
              simp only at h3
              rw [Sv.cdF_step, h4, h5, h59, if_pos rfl] at h3
              exact h3.symm
            subst hr
            have HNMo := unhide HNM
            subst HNMo
            clear h4 h5 hCC hc2 HX HNM
            have kk := fun n => gr_set (wC.drewN n) b 1 (.int .i64 ((pp : Int) + 1))
            have hb2 := fun n => (hbC.drewN n).set1 (pp + 1)
            have hU3 := fun n => (hUC.drewN n).kept (kk n) (by simp; omega)
            have hR3 := fun n => (hRC.drewN n).kept (kk n) (by simp; omega)
            have e0 := fun n => (hU3 n).c.1
            have e1 := fun n => (hU3 n).c.2
            have g0 := fun n => (hR3 n).c.1
            have g1 := fun n => (hR3 n).c.2
            have y0 := fun n => (hR3 n).fz 0
            have y1 := fun n => (hR3 n).fz 1
            generalize hcut : Sv.cut s.data.toList i (Sv.nmF 8 s.data.toList i) = nmL at *
            go_wp2_with (go_at_call 148; refine (by first | exact hher _ | exact hher 0 : Calls _ _ _ _ _).mono ?_; rintro e w9 ⟨rfl, n9, rfl⟩)
            have k3 := fun n => gr_set2 ((wC.drewN n).setCell ⟨b, 1, none⟩ (.int .i64 ((pp : Int) + 1))) w.heap.size (.string ⟨nmL.toArray⟩) (.slice aoA (acc.length + 1) capA)
            have g01 := fun n => ((hR3 n).set2 (.string ⟨nmL.toArray⟩) (.slice aoA (acc.length + 1) capA)).c
            exact bodyPost_ret (v := .agg #[.string ⟨nmL.toArray⟩, .slice aoA (acc.length + 1) capA]) (by simp [results, Tryz.results118, go_sem, g01]) rfl ⟨_, by subst hcut; rfl, ((hc1.row (gr_drewN wC _ none) (RowOk.none 0 0 _) (by decide) (by decide)).row (kk _) (hbC.drewN _).rowOk (by decide) (by decide)).row (k3 _) (RowOk.one2 (hR3 _) (Nat.le_refl _)) (by decide) (by decide), (hb2 _).kept (k3 _) (by simp; omega), gr_own (gr_trans (gr_trans hgC0 (gr_drewN wC _ _)) (kk _)) (k3 _) (Nat.le_refl _)⟩

end Go.Proofs.YtolhbeekfjnfmaaGreatDoor

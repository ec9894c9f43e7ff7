/- The reader's lists of terms. -/
import Derived.Test.YtolhbeekfjnfmaaGreatDoorWd
namespace Go.Proofs.YtolhbeekfjnfmaaGreatDoor
open Go.RowKit

/-- A list of terms lies behind a slice. -/
def TsAt (base : Nat) (u : Value) (ts : List Sv.Term) (w : World) : Prop := w.ownsRow base 258 3 u ts.length (ts.flatMap tcells)
theorem TsAt.slice {base : Nat} {u : Value} {ts : List Sv.Term} {w : World} (h : TsAt base u ts w) : ∃ ao cap, u = .slice ao ts.length cap := by
  rcases h.2 with ⟨h1, h2⟩ | ⟨g, cap, cur, h1, _⟩
  · exact ⟨none, 0, by rw [h2]; exact h1⟩
  · exact ⟨_, _, h1⟩
theorem own_kept {w w' : World} {base : Nat} {e : TypeId} {size : Nat} {v : Value} {n : Nat} {xs : List Value} {b : Nat} (h : w.ownsRow base e size v n xs) (hg : w.grownBy w' (some b)) {cs : Array Value} {T : TypeId} {fz : Nat × Nat} (hb : w.heap[b]? = some (.cells cs T fz)) (hne : T ≠ e) : w'.ownsRow base e size v n xs := by
  refine h.kept hg ?_
  rcases h.2 with ⟨h1, _⟩ | ⟨g, cap, cur, h1, _, h2, _⟩
  · exact .inl (by rw [h1]; rfl)
  · refine .inr ?_
    rw [h1]
    intro e1
    have e2 : g = b := by simpa [Value.ownBlock] using e1
    subst e2
    rw [h2] at hb
    simp at hb
    exact hne hb.2.1.symm
theorem TsAt.kept {base : Nat} {u : Value} {ts : List Sv.Term} {w w' : World} {b : Nat} {s : ByteArray} {i : Nat} {v : Value} (h : TsAt base u ts w) (hb : PAt b s i v w) (hg : w.grownBy w' (some b)) : TsAt base u ts w' :=
  own_kept h hg hb (by decide)

/-- A row that a call owns: from base on, and of this type. -/
def RowOk (base : Nat) (e : TypeId) (row : Option Nat) (w : World) : Prop := ∀ g, row = some g → base ≤ g ∧ ∃ cur fz, w.heap[g]? = some (.cells cur e fz)
theorem RowOk.of {w : World} {base : Nat} {e : TypeId} {size : Nat} {v : Value} {n : Nat} {xs : List Value} (h : w.ownsRow base e size v n xs) : RowOk base e v.ownBlock w := by
  intro g hg
  rcases h.2 with ⟨h1, _⟩ | ⟨g', cap, cur, h1, h2, h3, _⟩
  · rw [h1] at hg; simp [Value.ownBlock] at hg
  · rw [h1] at hg
    simp [Value.ownBlock] at hg
    subst hg
    exact ⟨h2, cur, _, h3⟩
theorem gr_owns {w a c : World} {r row : Option Nat} {e : TypeId} (h : w.grownBy a r) (k : a.grownBy c row) (hr : RowOk w.heap.size e row a) : w.grownBy c r :=
  ⟨k.os.trans h.os, k.tape.trans h.tape, k.output.trans h.output, Nat.le_trans h.size k.size, fun i hi hne => (k.block i (Nat.lt_of_lt_of_le hi h.size) (fun e => by have := (hr i e.symm).1; omega)).trans (h.block i hi hne)⟩
theorem PAt.row {b : Nat} {s : ByteArray} {j : Nat} {v : Value} {w w' : World} {row : Option Nat} {base : Nat} {e : TypeId} (h : PAt b s j v w) (hg : w.grownBy w' row) (hr : RowOk base e row w) (he : e ≠ 117) : PAt b s j v w' := by
  refine h.kept hg (fun e1 => ?_)
  obtain ⟨_, cur, fz, h2⟩ := hr b e1.symm
  unfold PAt at h
  rw [h] at h2
  simp at h2
  exact he h2.2.1.symm
theorem FAt.row {f i : Nat} {x : Value} {w w' : World} {row : Option Nat} {base : Nat} {e : TypeId} (h : FAt f i x w) (hg : w.grownBy w' row) (hr : RowOk base e row w) (he : e ≠ 114) : FAt f i x w' := by
  refine h.kept hg (fun e1 => ?_)
  obtain ⟨_, cur, fz, h2⟩ := hr f e1.symm
  unfold FAt at h
  rw [h] at h2
  simp at h2
  exact he h2.2.1.symm
/-- The reader's standing is not touched by what is written into a row of the call's own. -/
theorem St.row {b : Nat} {s : ByteArray} {j : Nat} {f : Bool} {eT eL : Value} {w w' : World} {row : Option Nat} {base : Nat} {e : TypeId} (h : St b s j f eT eL w) (hg : w.grownBy w' row) (hr : RowOk base e row w) (he : e ≠ 117) (he2 : e ≠ 114) (_hT : 2 < base) (_hL : 0 < base) : St b s j f eT eL w' := by
  obtain ⟨v, hp, hx, hG⟩ := h
  refine ⟨v, hp.row hg hr he, ?_, hG.nT, hG.nL, hg.cell hG.cT (fun e => ?_), hg.cell hG.cL (fun e => ?_)⟩
  · rcases hx with hx | ⟨h1, k, i, h2, h3, h4⟩
    · exact .inl hx
    · exact .inr ⟨h1, k, i, h2, h3, h4.row hg hr he2⟩
  · have := (hr _ e.symm).1; simp at this; omega
  · have := (hr _ e.symm).1; simp at this; omega
theorem St.base {b : Nat} {s : ByteArray} {j : Nat} {f : Bool} {eT eL : Value} {w : World} (h : St b s j f eT eL w) : 2 < w.heap.size ∧ 0 < w.heap.size ∧ b < w.heap.size := by
  obtain ⟨v, hp, hx, hG⟩ := h
  exact ⟨World.block_lt_of_cell? w _ hG.cT, World.block_lt_of_cell? w _ hG.cL, hp.lt⟩
theorem St.at {b : Nat} {s : ByteArray} {j : Nat} {f : Bool} {eT eL : Value} {w : World} (h : St b s j f eT eL w) : atOf b w = j := by
  obtain ⟨v, hp, _⟩ := h
  exact hp.at
theorem RowOk.none (base : Nat) (e : TypeId) (w : World) : RowOk base e none w := by intro g hg; cases hg
theorem Tryz.infoTerm : (Tryz.prog.info? 258).map (fun i => (i.zero, i.size, i.bytes)) = some (some (.agg #[.int .i64 0, .int .u8 0, .int .i64 0]), 3, 24) := by kernel_rfl

theorem flag_more (f : Bool) (m n : Nat) : (f || decide (m < n + 1)) = (f || decide (m < n) || decide (m ≤ n)) := by
  cases f
  · rw [Bool.eq_iff_iff]
    simp only [Bool.false_or, Bool.or_eq_true, decide_eq_true_eq]
    omega
  · simp
theorem Sv.tmF_step (n : Nat) (l : List UInt8) (acc : List Sv.Term) (i : Nat) : Sv.tmF (n + 1) l acc i =
    if (Sv.pk l (Sv.sk l i) == 41) = true then .inr (acc, Sv.sk l i + 1)
    else match Sv.term l (Sv.sk l i) with
      | .inl k => .inl k
      | .inr (t, j) => Sv.tmF n l (acc ++ [t]) j := rfl

/-- What the reader of terms comes to. -/
def TermsPost (b : Nat) (s : ByteArray) (f : Bool) (eT eL : Value) (w : World) (r : Nat ⊕ (List Sv.Term × Nat)) (e : Ending) (w' : World) : Prop :=
  match r with
  | .inl k => ∃ y, e = .returned (.tuple #[.slice none 0 0, y]) ∧ Bad b k eT w y w'
  | .inr (ts, j) => ∃ u, e = .returned (.tuple #[u, .nilIface]) ∧ TsAt w.heap.size u ts w' ∧ St b s j (f || decide (4 < ts.length)) eT eL w' ∧ w.grownBy w' (some b)

set_option maxHeartbeats 1000000 in
set_option maxRecDepth 100000 in
theorem terms_w (b : Nat) (s : ByteArray) (i : Nat) (f : Bool) (tT : TypeId) (aT : Addr) (tL : TypeId) (aL : Addr) (w : World) (hi : i ≤ s.size) (hs : s.size ≤ 400)
    (hb : St b s i f (.iface tT (.pointer (some aT))) (.iface tL (.pointer (some aL))) w) :
    Calls Tryz.prog 181 #[.pointer (some ⟨b, 0, none⟩)] w fun e w' => TermsPost b s f (.iface tT (.pointer (some aT))) (.iface tL (.pointer (some aL))) w (Sv.terms s.data.toList i) e w' := by
  obtain ⟨i0, hinf, hz0, hz1, hz2⟩ := info_parts Tryz.infoTerm
  generalize hr : Sv.terms s.data.toList i = r
  have HR : Hid (Sv.terms s.data.toList i = r) := hr
  clear hr
  go_enter Tryz.func181, Tryz.ntmps181
  go_wp2
  go_loopw [4] (fun u w' => ∃ (k n : Nat) (acc : List Sv.Term), s.size < k + n ∧ k ≤ s.size ∧ acc.length ≤ k ∧ TsAt w.heap.size u acc w' ∧ St b s k (f || decide (4 < acc.length)) (.iface tT (.pointer (some aT))) (.iface tL (.pointer (some aL))) w' ∧ w.grownBy w' (some b) ∧ Sv.tmF n s.data.toList acc k = r) (fun _ w' => s.size - atOf b w')
  case atStart => exact ⟨i, s.data.toList.length + 1, [], by simp; omega, hi, Nat.zero_le _, World.ownsRow_nil _ _ _ _, by simpa using hb, World.grownBy.refl _ _, HR.out⟩
  case round =>
    obtain ⟨k, m, acc, hkm, hk, hacc, hts, hst, hg, hnm⟩ := hrel
    obtain ⟨m, rfl⟩ : ∃ m', m = m' + 1 := ⟨m - 1, by omega⟩
    rw [Sv.tmF_step] at hnm
    obtain ⟨vx, hbk, hex, hG⟩ := hst
    have HA : Hid (atOf b wr = k) := hbk.at
    have hle := Sv.sk_le s.data.toList k (by simpa using hk)
    rw [size_list] at hle
    obtain ⟨hle1, hle2⟩ := hle
    obtain ⟨ao, cap, rfl⟩ := hts.slice
    cases h41 : Sv.pk s.data.toList (Sv.sk s.data.toList k) == 41
    · rw [h41, if_neg (by simp)] at hnm
      have HN : Hid ((match Sv.term s.data.toList (Sv.sk s.data.toList k) with
        | .inl k => .inl k
        | .inr (t, j) => Sv.tmF m s.data.toList (acc ++ [t]) j) = r) := hnm
      clear hnm
      have hok := Sv.term_ok s.data.toList (Sv.sk s.data.toList k) (by simpa using hle2)
      go_wp2_with (go_at_call 156; refine (take_no b s k vx 41 _ rfl _ hk hs h41 hbk).mono ?_; rintro e w1 ⟨rfl, hb1, hg1⟩)
      refine (note_w b s _ _ tT aT tL aL w1 acc.length 4 _ _ rfl rfl (St.step hb1 hex hG hg1)).mono ?_
      rintro e w2 ⟨rfl, ⟨vy, hb2, hex2, hG2⟩, hg2⟩
      have hts2 := (hts.kept hbk hg1).kept hb1 hg2
      have hg02 := gr_trans hg (gr_trans hg1 hg2)
      clear hts hbk hex hG hb1 hg1 hg2 hg
      go_wp2_with fail
      refine (term_w b s _ vy _ tT aT _ hle2 hs hb2 hG2).mono ?_
      intro e w3 hp
      have HNo := HN.out
      clear HN
      cases hr : Sv.term s.data.toList (Sv.sk s.data.toList k) with
      | inl q =>
        rw [hr] at hp HNo
        obtain ⟨y, rfl, ff, rfl, hf, hF, hg3⟩ := hp
        simp only at HNo
        subst HNo
        have hf' : w.heap.size ≤ ff := Nat.le_trans hg02.size hf
        have hg03 := gr_trans hg02 hg3
        clear hts2 hex2 hG2 hb2 hok hr
        go_wp2
        go_ret2
        exact ⟨_, rfl, ff, rfl, hf', hF.kept (World.grownBy_alloc w3 _ none) (by simp), gr_trans hg03 (World.grownBy_alloc w3 _ _)⟩
      | inr q =>
        obtain ⟨tm, j⟩ := q
        rw [hr] at hp HNo hok
        obtain ⟨he, hb3, hg3⟩ := hp
        have he' : e = .returned (.tuple #[.agg #[.int .i64 tm.sort, .int .u8 tm.letter.toNat, .int .i64 tm.value], .nilIface]) := he
        clear he
        subst he'
        obtain ⟨hok1, hok2⟩ := hok
        rw [size_list] at hok2
        have HN : Hid (Sv.tmF m s.data.toList (acc ++ [tm]) j = r) := HNo
        clear HNo hr
        have hts3 := hts2.kept hb2 hg3
        have hst3 : St b s j ((f || decide (4 < acc.length)) || decide (4 ≤ acc.length)) (.iface tT (.pointer (some aT))) (.iface tL (.pointer (some aL))) w3 := St.step hb3 hex2 hG2 hg3
        have hg03 := gr_trans hg02 hg3
        clear hts2 hex2 hG2 hb2
        obtain ⟨hbT, hbL, hbB⟩ := hb.base
        have hrow := RowOk.of ((hts3.alloc (.cells #[.int .i64 tm.sort, .int .u8 tm.letter.toNat, .int .i64 tm.value] 258)).alloc (.cells #[.int .i64 tm.sort, .int .u8 tm.letter.toNat, .int .i64 tm.value] 258))
        have hgA := World.grownBy_alloc w3 (.cells #[.int .i64 tm.sort, .int .u8 tm.letter.toNat, .int .i64 tm.value] 258) none
        have hgB := gr_trans hgA (World.grownBy_alloc (w3.alloc (.cells #[.int .i64 tm.sort, .int .u8 tm.letter.toNat, .int .i64 tm.value] 258)) (.cells #[.int .i64 tm.sort, .int .u8 tm.letter.toNat, .int .i64 tm.value] 258) none)
        have hst5 := hst3.row hgB (RowOk.none w.heap.size 258 w3) (by decide) (by decide) hbT hbL
        have hg05 := gr_trans hg03 (gr_any hgB (some b))
        have hsz3 := hg03.size
        clear hgA hgB
        go_wp2_with (at_builtin; refine wpList_append_own _ rfl _ _ 198 rfl w.heap.size 258 i0 (.agg #[.int .i64 0, .int .u8 0, .int .i64 0]) 3 24 Tryz.underlying198 hinf hz0 hz1 hz2 rfl (by decide) _ acc.length (acc.flatMap tcells) rfl ((hts3.alloc _).alloc _) ⟨w3.heap.size + 1, 0, none⟩ 1 1 (tcells tm) rfl rfl ?c1 ?c2 ?c3 ?c4 ?c5 ?_)
        case c1 =>
          intro jj u hu
          match jj, hu with
          | 0, hu => simp [tcells] at hu; subst hu; simp [Addr.add]
          | 1, hu => simp [tcells] at hu; subst hu; simp [Addr.add]
          | 2, hu => simp [tcells] at hu; subst hu; simp [Addr.add]
          | n + 3, hu => simp [tcells] at hu
        case c2 =>
          intro u hu
          simp [tcells] at hu
          rcases hu with rfl | rfl | rfl <;> rfl
        case c3 => unfold maxLen; omega
        case c4 => omega
        case c5 => simp; omega
        intro v' w4 hown hgrow _
        have hst4 := hst5.row hgrow hrow (by decide) (by decide) hbT hbL
        have hg04 := gr_owns hg05 hgrow hrow
        have HA4 : Hid (atOf b w4 = j) := hst4.at
        have hts4 : TsAt w.heap.size v' (acc ++ [tm]) w4 := by
          unfold TsAt
          rw [List.length_append, List.flatMap_append]
          simpa using hown
        clear hown hgrow hst5 hg05 hst3 hts3 hrow
        go_wp2
        go_roundw
        case rel => exact ⟨j, m, acc ++ [tm], by omega, by omega, by simp; omega, hts4, by rw [List.length_append, List.length_singleton, flag_more]; exact hst4, hg04, HN.out⟩
        case measure => rw [HA4.out, HA.out]; omega
    · rw [h41, if_pos rfl] at hnm
      subst hnm
      go_wp2_with (go_at_call 156; refine (take_yes b s k vx 41 _ rfl _ hk hs h41 hbk).mono ?_; rintro e w1 ⟨rfl, hb1, hg1⟩)
      go_ret2
      exact ⟨_, rfl, hts.kept hbk hg1, St.step hb1 hex hG hg1, gr_trans hg hg1⟩

end Go.Proofs.YtolhbeekfjnfmaaGreatDoor

/- The reader's lists of rules. -/
import Derived.Test.YtolhbeekfjnfmaaGreatDoorWh
namespace Go.Proofs.YtolhbeekfjnfmaaGreatDoor
open Go.RowKit

/-- The cells of a list of rules. -/
def RsCells (B : Nat) (w : World) : List Sv.Rule → List Value → Prop
  | [], xs => xs = []
  | q :: rs, xs => ∃ u ys, xs = .string ⟨q.name.toArray⟩ :: u :: ys ∧ CsAt B u q.conds w ∧ RsCells B w rs ys
theorem RsCells.row {B : Nat} {w w' : World} {base' : Nat} {e' : TypeId} {row : Option Nat} (hg : w.grownBy w' row) (hr : RowOk base' e' row w) (hne : e' ≠ 258) (hne2 : e' ≠ 200) : ∀ (rs : List Sv.Rule) (xs : List Value), RsCells B w rs xs → RsCells B w' rs xs
  | [], _, h => h
  | _ :: rs, _, ⟨u, ys, h1, h2, h3⟩ => ⟨u, ys, h1, h2.row hg hr hne hne2, RsCells.row hg hr hne hne2 rs ys h3⟩
theorem RsCells.snoc {B : Nat} {w : World} (q : Sv.Rule) (u : Value) (hu : CsAt B u q.conds w) : ∀ (rs : List Sv.Rule) (xs : List Value), RsCells B w rs xs → RsCells B w (rs ++ [q]) (xs ++ [.string ⟨q.name.toArray⟩, u])
  | [], xs, h => ⟨u, [], by rw [show xs = [] from h]; rfl, hu, rfl⟩
  | _ :: rs, _, ⟨v, ys, h1, h2, h3⟩ => ⟨v, ys ++ [.string ⟨q.name.toArray⟩, u], by rw [h1]; rfl, h2, RsCells.snoc q u hu rs ys h3⟩
/-- A list of rules lies behind a slice. -/
def RsAt (base : Nat) (v : Value) (rs : List Sv.Rule) (w : World) : Prop := ∃ xs, w.ownsRow base 128 2 v rs.length xs ∧ RsCells base w rs xs
theorem RsAt.slice {base : Nat} {u : Value} {rs : List Sv.Rule} {w : World} (h : RsAt base u rs w) : ∃ ao cap, u = .slice ao rs.length cap := by
  obtain ⟨xs, h, _⟩ := h
  rcases h.2 with ⟨h1, h2⟩ | ⟨g, cap, cur, h1, _⟩
  · exact ⟨none, 0, by rw [h2]; exact h1⟩
  · exact ⟨_, _, h1⟩
theorem RsAt.row {w w' : World} {base base' : Nat} {e' : TypeId} {v : Value} {rs : List Sv.Rule} {row : Option Nat} (h : RsAt base v rs w) (hg : w.grownBy w' row) (hr : RowOk base' e' row w) (hne : e' ≠ 258) (hne2 : e' ≠ 200) (hne3 : e' ≠ 128) : RsAt base v rs w' := by
  obtain ⟨xs, h1, h2⟩ := h
  exact ⟨xs, own_row h1 hg hr hne3, RsCells.row hg hr hne hne2 rs xs h2⟩
theorem CsAt.weaker {base base' : Nat} {v : Value} {cs : List Sv.Cond} {w : World} (h : CsAt base v cs w) (hb : base' ≤ base) : CsAt base' v cs w := by
  obtain ⟨xs, h1, h2⟩ := h
  exact ⟨xs, own_weak h1 hb, CsCells.weak hb cs xs h2⟩
theorem CsAt.weak {base : Nat} {v : Value} {cs : List Sv.Cond} {w : World} (h : CsAt base v cs w) : CsAt 0 v cs w := h.weaker (Nat.zero_le _)
theorem RsCells.weak {B B' : Nat} {w : World} (hB : B' ≤ B) : ∀ (rs : List Sv.Rule) (xs : List Value), RsCells B w rs xs → RsCells B' w rs xs
  | [], _, h => h
  | _ :: rs, _, ⟨u, ys, h1, h2, h3⟩ => ⟨u, ys, h1, h2.weaker hB, RsCells.weak hB rs ys h3⟩
theorem RsAt.weak {base base' : Nat} {v : Value} {rs : List Sv.Rule} {w : World} (h : RsAt base v rs w) (hb : base' ≤ base) : RsAt base' v rs w := by
  obtain ⟨xs, h1, h2⟩ := h
  exact ⟨xs, own_weak h1 hb, RsCells.weak hb rs xs h2⟩

theorem Sv.ex_snoc (f : Bool) (rs : List Sv.Rule) (q : Sv.Rule) : (f || Sv.ex (rs ++ [q])) = (f || Sv.ex rs || decide (8 ≤ rs.length) || Sv.exR q) := by
  unfold Sv.ex
  rw [List.length_append, List.length_singleton, List.any_append]
  have h := flag_more f 8 rs.length
  have h2 : [q].any Sv.exR = Sv.exR q := by simp
  rw [h2, ← Bool.or_assoc, h]
  cases f <;> cases decide (8 < rs.length) <;> cases decide (8 ≤ rs.length) <;> cases rs.any Sv.exR <;> cases Sv.exR q <;> rfl

theorem Sv.rlF_step (n : Nat) (l : List UInt8) (acc : List Sv.Rule) (i : Nat) : Sv.rlF (n + 1) l acc i =
    if i < l.length then
      match Sv.rule l i with
      | .inl k => .inl k
      | .inr (q, j) => Sv.rlF n l (acc ++ [q]) (Sv.sk l j)
    else .inr acc := rfl

theorem Tryz.infoRule : (Tryz.prog.info? 128).map (fun i => (i.zero, i.size, i.bytes)) = some (some (.agg #[.string ⟨#[]⟩, .slice none 0 0]), 2, 40) := by kernel_rfl

/-- What the reader of rules comes to. -/
def RulesPost (b : Nat) (s : ByteArray) (f : Bool) (eT eL : Value) (w : World) (r : Nat ⊕ (List Sv.Rule)) (e : Ending) (w' : World) : Prop :=
  match r with
  | .inl k => ∃ y, e = .returned (.tuple #[.slice none 0 0, y]) ∧ Bad b k eT w y w'
  | .inr rs => ∃ u j, e = .returned (.tuple #[u, .nilIface]) ∧ RsAt w.heap.size u rs w' ∧ St b s j (f || Sv.ex rs) eT eL w' ∧ w.grownBy w' (some b)

/-- What holds at the head of the loop. -/
def RLoop (b : Nat) (s : ByteArray) (f : Bool) (eT eL : Value) (w : World) (r : Nat ⊕ (List Sv.Rule)) (u : Value) (w' : World) : Prop :=
  ∃ (k n : Nat) (rs : List Sv.Rule), s.size < k + n ∧ k ≤ s.size ∧ rs.length ≤ k ∧ RsAt w.heap.size u rs w' ∧ St b s k (f || Sv.ex rs) eT eL w' ∧ w.grownBy w' (some b) ∧ Sv.rlF n s.data.toList rs k = r

set_option maxHeartbeats 1000000 in
set_option maxRecDepth 100000 in
theorem rules_w (b : Nat) (s : ByteArray) (f : Bool) (tT : TypeId) (aT : Addr) (tL : TypeId) (aL : Addr) (w : World) (hs : s.size ≤ 400)
    (hb : St b s 0 f (.iface tT (.pointer (some aT))) (.iface tL (.pointer (some aL))) w) :
    Calls Tryz.prog 63 #[.pointer (some ⟨b, 0, none⟩)] w fun e w' => RulesPost b s f (.iface tT (.pointer (some aT))) (.iface tL (.pointer (some aL))) w (Sv.rules s.data.toList) e w' := by
  obtain ⟨i0, hinf, hz0, hz1, hz2⟩ := info_parts Tryz.infoRule
  obtain ⟨hbT, hbL, hbB⟩ := hb.base
  generalize hr : Sv.rules s.data.toList = r
  unfold Sv.rules at hr
  have HR := hide hr
  clear hr
  obtain ⟨v, hp, hex, hG⟩ := hb
  have hle := Sv.sk_le s.data.toList 0 (by simp)
  rw [size_list] at hle
  go_enter Tryz.func63, Tryz.ntmps63
  go_wp2_with (go_at_call 88; refine (skip_w b s 0 v _ (Nat.zero_le _) hs hp).mono ?_; rintro e w1 ⟨rfl, hb1, hg1⟩)
  go_loopw [4] (fun u w' => RLoop b s f (.iface tT (.pointer (some aT))) (.iface tL (.pointer (some aL))) w r u w') (fun _ w' => s.size - atOf b w')
  case atStart =>
    exact ⟨Sv.sk s.data.toList 0, s.data.toList.length + 1, [], by simp; omega, hle.2, Nat.zero_le _, ⟨[], World.ownsRow_nil _ _ _ _, rfl⟩, by simpa [Sv.ex] using St.step hb1 hex hG hg1, hg1, unhide HR⟩
  case round =>
    clear hb1 hg1 hp hex hG HR hle
    obtain ⟨k, m, acc, hkm, hk, hacc, hrs, hst, hg, hnm⟩ := hrel
    obtain ⟨m, rfl⟩ : ∃ m', m = m' + 1 := ⟨m - 1, by omega⟩
    rw [Sv.rlF_step, size_list] at hnm
    have HA := hide hst.at
    obtain ⟨ao2, cap2, rfl⟩ := hrs.slice
    obtain ⟨vx, hbk, hex, hG⟩ := hst
    have c0 := hbk.c0
    have c1 := hbk.c1
    by_cases hlt : k < s.size
    · rw [if_pos hlt] at hnm
      have HN := hide hnm
      clear hnm
      have hd : decide ((k : Int) < (s.size : Int)) = true := by simp; omega
      have hok := Sv.rule_ok s.data.toList k (by simpa using hk)
      go_wp2_with fail
      go_quiet (fail)
      go_wp2_with fail
      refine (note_w b s _ _ tT aT tL aL _ acc.length 8 _ _ rfl rfl ⟨vx, hbk.drewN _, hex.kept (gr_drewN wr _ _), hG.drewN _⟩).mono ?_
      rintro e w3 ⟨rfl, hst3, hg3⟩
      have hrs3 := hrs.row (gr_un hg3) hbk.rowOk (by decide) (by decide) (by decide)
      have hg03 := gr_trans hg (gr_un hg3)
      clear hrs hbk hex hG hg3 hg c0 c1
      go_wp2_with fail
      refine (rule_w b s k _ tT aT tL aL w3 hk hs hst3).mono ?_
      intro e w5 hp
      have HNo := unhide HN
      clear HN
      cases hc : Sv.rule s.data.toList k with
      | inl q =>
        rw [hc] at hp HNo
        obtain ⟨y, rfl, ff, rfl, hf, hF, hg5⟩ := hp
        simp only at HNo
        subst HNo
        have hf' : w.heap.size ≤ ff := Nat.le_trans hg03.size hf
        have hg05 := gr_trans hg03 hg5
        clear hst3 hrs3 hok hc
        go_wp2
        go_ret2
        exact ⟨_, rfl, ff, rfl, hf', hF.kept (World.grownBy_alloc w5 _ none) (by simp), gr_trans hg05 (World.grownBy_alloc w5 _ _)⟩
      | inr q =>
        obtain ⟨ru, j2⟩ := q
        rw [hc] at hp HNo hok
        obtain ⟨u5, rfl, hcs5, hst5, hg5⟩ := hp
        obtain ⟨ao5, cap5, rfl⟩ := hcs5.slice
        obtain ⟨hok1, hok2⟩ := hok
        rw [size_list] at hok2
        have HN := hide HNo
        clear HNo hc
        have hrs5 := hrs3.row hg5 hst3.rowOk (by decide) (by decide) (by decide)
        have hg05 := gr_trans hg03 hg5
        have hsz4 := hg03.size
        clear hst3 hrs3 hg5 hg03
        obtain ⟨xs, hown5, hcells5⟩ := hrs5
        have hgA := World.grownBy_alloc w5 (.cells #[.string ⟨ru.name.toArray⟩, .slice ao5 ru.conds.length cap5] 128) none
        have hgB := gr_trans hgA (World.grownBy_alloc (w5.alloc (.cells #[.string ⟨ru.name.toArray⟩, .slice ao5 ru.conds.length cap5] 128)) (.cells #[.string ⟨ru.name.toArray⟩, .slice ao5 ru.conds.length cap5] 128) none)
        have hrow := RowOk.of ((hown5.alloc (.cells #[.string ⟨ru.name.toArray⟩, .slice ao5 ru.conds.length cap5] 128)).alloc (.cells #[.string ⟨ru.name.toArray⟩, .slice ao5 ru.conds.length cap5] 128))
        have hst6 := hst5.row hgB (RowOk.none w.heap.size 128 w5) (by decide) (by decide) hbT hbL
        have hcells6 := RsCells.row hgB (RowOk.none 0 0 w5) (by decide) (by decide) acc xs hcells5
        have hcs6 := (CsAt.row hcs5 hgB (RowOk.none 0 0 w5) (by decide) (by decide)).weaker (base' := w.heap.size) (by first | exact hsz4 | omega)
        have hg06 := gr_trans hg05 (gr_any hgB (some b))
        have hsz5 := hg05.size
        clear hgA hgB hcells5 hcs5 hst5
        go_wp2_with (at_builtin; refine wpList_append_own _ rfl _ _ 77 rfl w.heap.size 128 i0 (.agg #[.string ⟨#[]⟩, .slice none 0 0]) 2 40 Tryz.underlying77 hinf hz0 hz1 hz2 rfl (by decide) _ acc.length xs rfl ((hown5.alloc _).alloc _) ⟨w5.heap.size + 1, 0, none⟩ 1 1 [.string ⟨ru.name.toArray⟩, .slice ao5 ru.conds.length cap5] rfl rfl ?c1 ?c2 ?c3 ?c4 ?c5 ?_)
        case c1 =>
          intro jj u hu
          match jj, hu with
          | 0, hu => simp at hu; subst hu; simp [Addr.add]
          | 1, hu => simp at hu; subst hu; simp [Addr.add]
          | n + 2, hu => simp at hu
        case c2 =>
          intro u hu
          simp at hu
          rcases hu with rfl | rfl <;> rfl
        case c3 => unfold maxLen; omega
        case c4 => omega
        case c5 => simp; omega
        intro v' w7 hown hgrow _
        have hst7 := hst6.row hgrow hrow (by decide) (by decide) hbT hbL
        have hg07 := gr_owns hg06 hgrow hrow
        have hcells7 := RsCells.row hgrow hrow (by decide) (by decide) acc xs hcells6
        have hcs7 := CsAt.row hcs6 hgrow hrow (by decide) (by decide)
        have hrs7 : RsAt w.heap.size v' (acc ++ [ru]) w7 := ⟨_, by rw [List.length_append]; exact hown, RsCells.snoc ru _ hcs7 acc xs hcells7⟩
        rw [← Sv.ex_snoc f acc ru] at hst7
        clear hown hgrow hst6 hg06 hown5 hrow hcells6 hcells7 hcs6 hcs7
        have hle := Sv.sk_le s.data.toList j2 (by simpa using hok2)
        rw [size_list] at hle
        obtain ⟨vz, hb7, hex7, hG7⟩ := hst7
        obtain ⟨aoz, capz, rfl⟩ := hrs7.slice
        go_wp2_with (go_at_call 88; refine (skip_w b s j2 vz _ hok2 hs hb7).mono ?_; rintro e w8 ⟨rfl, hb8, hg8⟩)
        rw [List.length_append, List.length_singleton] at hrs7
        refine ⟨⟨Sv.sk s.data.toList j2, m, acc ++ [ru], by omega, hle.2, by simp; omega, hrs7.row hg8 hb7.rowOk (by decide) (by decide) (by decide), St.step hb8 hex7 hG7 hg8, gr_trans hg07 hg8, unhide HN⟩, ?_⟩
        rw [hb8.at, unhide HA]
        omega
    · rw [if_neg hlt] at hnm
      subst hnm
      have hd : decide ((k : Int) < (s.size : Int)) = false := by simp; omega
      go_wp2_with fail
      go_quiet (fail)
      go_wp2
      go_ret2
      exact ⟨_, k, rfl, hrs.row (gr_drewN wr _ none) (RowOk.none 0 0 wr) (by decide) (by decide) (by decide), ⟨vx, hbk.drewN _, hex.kept (gr_drewN wr _ _), hG.drewN _⟩, gr_trans hg (gr_drewN _ _ _)⟩

/-- What the reader of a whole text comes to: where it is wrong; too much; the rules. -/
def ParsePost (eT eL : Value) (w : World) (s : ByteArray) (e : Ending) (w' : World) : Prop :=
  w.grownBy w' none ∧
  if 400 < s.size then ∃ g i, e = .returned (.tuple #[.slice none 0 0, .iface 112 (.pointer (some ⟨g, 0, none⟩))]) ∧ FAt g i eL w'
  else match Sv.rules s.data.toList with
    | .inl k => ∃ g, e = .returned (.tuple #[.slice none 0 0, .iface 112 (.pointer (some ⟨g, 0, none⟩))]) ∧ FAt g k eT w'
    | .inr rs =>
      if Sv.ex rs = true then ∃ g i, e = .returned (.tuple #[.slice none 0 0, .iface 112 (.pointer (some ⟨g, 0, none⟩))]) ∧ FAt g i eL w'
      else ∃ u, e = .returned (.tuple #[u, .nilIface]) ∧ RsAt w.heap.size u rs w'

set_option maxHeartbeats 400000 in
theorem parse_long (s : ByteArray) (w : World) (tT : TypeId) (aT : Addr) (tL : TypeId) (aL : Addr) (hL : w.cell? ⟨0, 0, none⟩ = some (.iface tL (.pointer (some aL)))) (hm : s.size ≤ maxLen) (hs : 400 < s.size) :
    Calls Tryz.prog 35 #[.string s] w fun e w' => ParsePost (.iface tT (.pointer (some aT))) (.iface tL (.pointer (some aL))) w s e w' := by
  unfold maxLen at hm
  have hd : decide ((400 : Int) < (s.size : Int)) = true := by simp; omega
  go_enter Tryz.func35, Tryz.ntmps35
  go_wp2
  go_region
  all_goals
    go_wp2
    go_ret2
    refine ⟨gr_drew (World.grownBy_alloc w _ none), ?_⟩
    rw [if_pos hs]
    exact ⟨w.heap.size, 400, rfl, heap_alloc_new _ _⟩

set_option maxHeartbeats 400000 in
theorem parse_short (s : ByteArray) (w : World) (tT : TypeId) (aT : Addr) (tL : TypeId) (aL : Addr) (hT : w.cell? ⟨2, 0, none⟩ = some (.iface tT (.pointer (some aT)))) (hL : w.cell? ⟨0, 0, none⟩ = some (.iface tL (.pointer (some aL)))) (hs : ¬ 400 < s.size) :
    Calls Tryz.prog 35 #[.string s] w fun e w' => ParsePost (.iface tT (.pointer (some aT))) (.iface tL (.pointer (some aL))) w s e w' := by
  have hd : decide ((400 : Int) < (s.size : Int)) = false := by simp; omega
  have hs' : s.size ≤ 400 := by omega
  have lT : 2 < w.heap.size := World.block_lt_of_cell? w _ hT
  have lL : 0 < w.heap.size := World.block_lt_of_cell? w _ hL
  have hP0 : PAt w.heap.size s 0 (.pointer none) (w.alloc (.cells #[.string s, .int .i64 0, .pointer none] 117)) := heap_alloc_new _ _
  have hst0 : St w.heap.size s 0 false (.iface tT (.pointer (some aT))) (.iface tL (.pointer (some aL))) (w.alloc (.cells #[.string s, .int .i64 0, .pointer none] 117)) :=
    ⟨.pointer none, hP0, .inl ⟨rfl, rfl⟩, by omega, by omega, (cell_al w _ _ _ lT).trans hT, (cell_al w _ _ _ lL).trans hL⟩
  have hgA := World.grownBy_alloc w (.cells #[.string s, .int .i64 0, .pointer none] 117) none
  have HS := hide hs
  clear hs
  go_enter Tryz.func35, Tryz.ntmps35
  go_wp2_with fail
  refine (rules_w _ s false tT aT tL aL _ hs' hst0).mono ?_
  intro e w1 hp
  cases hr : Sv.rules s.data.toList with
  | inl k =>
    rw [hr] at hp
    obtain ⟨y, rfl, ff, rfl, hf, hF, hg⟩ := hp
    have hg1 := gr_own hgA hg (Nat.le_refl _)
    have HR := hide hr
    clear hr
    go_wp2
    go_ret2
    refine ⟨hg1, ?_⟩
    rw [if_neg (unhide HS), unhide HR]
    exact ⟨ff, rfl, hF⟩
  | inr rs =>
    rw [hr] at hp
    obtain ⟨u, j, rfl, hrs, ⟨vx, hbk, hex, hG⟩, hg⟩ := hp
    have hg1 := gr_own hgA hg (Nat.le_refl _)
    obtain ⟨ao, cap, rfl⟩ := hrs.slice
    have HR := hide hr
    clear hr
    have c2 := hbk.c2
    rw [Bool.false_or] at hex
    rcases hex with ⟨hex1, rfl⟩ | ⟨hex1, gg, ii, rfl, hne, hF⟩
    · have HE := hide hex1
      clear hex1
      go_wp2
      go_ret2
      refine ⟨hg1, ?_⟩
      rw [if_neg (unhide HS), unhide HR]
      simp only
      rw [unhide HE, if_neg (by simp)]
      exact ⟨_, rfl, hrs.weak (by simp)⟩
    · have HE := hide hex1
      clear hex1
      go_wp2
      go_quiet (fail)
      go_wp2
      go_ret2
      refine ⟨gr_trans hg1 (gr_drewN _ _ _), ?_⟩
      rw [if_neg (unhide HS), unhide HR]
      simp only
      rw [unhide HE, if_pos rfl]
      exact ⟨gg, ii, rfl, hF⟩

theorem parse_w (s : ByteArray) (w : World) (tT : TypeId) (aT : Addr) (tL : TypeId) (aL : Addr) (hT : w.cell? ⟨2, 0, none⟩ = some (.iface tT (.pointer (some aT)))) (hL : w.cell? ⟨0, 0, none⟩ = some (.iface tL (.pointer (some aL)))) (hm : s.size ≤ maxLen) :
    Calls Tryz.prog 35 #[.string s] w fun e w' => ParsePost (.iface tT (.pointer (some aT))) (.iface tL (.pointer (some aL))) w s e w' := by
  by_cases hs : 400 < s.size
  · exact parse_long s w tT aT tL aL hL hm hs
  · exact parse_short s w tT aT tL aL hT hL hs

end Go.Proofs.YtolhbeekfjnfmaaGreatDoor

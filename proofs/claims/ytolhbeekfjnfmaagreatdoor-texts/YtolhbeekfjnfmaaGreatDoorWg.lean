/- The reader's lists of conditions. -/
import Derived.Test.YtolhbeekfjnfmaaGreatDoorWf
namespace Go.Proofs.YtolhbeekfjnfmaaGreatDoor
open Go.RowKit

theorem own_row {w w' : World} {base base' : Nat} {e e' : TypeId} {size : Nat} {v : Value} {n : Nat} {xs : List Value} {row : Option Nat} (h : w.ownsRow base e size v n xs) (hg : w.grownBy w' row) (hr : RowOk base' e' row w) (hne : e' ≠ e) : w'.ownsRow base e size v n xs := by
  cases row with
  | none => exact h.kept hg (by cases hv : v.ownBlock <;> simp)
  | some b =>
    obtain ⟨_, cur, fz, hb⟩ := hr b rfl
    exact own_kept h hg hb hne
theorem TsAt.row {w w' : World} {base base' : Nat} {e' : TypeId} {v : Value} {ts : List Sv.Term} {row : Option Nat} (h : TsAt base v ts w) (hg : w.grownBy w' row) (hr : RowOk base' e' row w) (hne : e' ≠ 258) : TsAt base v ts w' := own_row h hg hr hne
theorem PAt.rowOk {b : Nat} {s : ByteArray} {i : Nat} {v : Value} {w : World} (h : PAt b s i v w) : RowOk 0 117 (some b) w := by
  intro g hg; cases hg; exact ⟨Nat.zero_le _, _, _, h⟩
theorem St.rowOk {b : Nat} {s : ByteArray} {i : Nat} {f : Bool} {eT eL : Value} {w : World} (h : St b s i f eT eL w) : RowOk 0 117 (some b) w := by
  obtain ⟨v, hp, _⟩ := h; exact hp.rowOk

/-- The cells of a list of conditions. -/
def CsCells (B : Nat) (w : World) : List Sv.Cond → List Value → Prop
  | [], xs => xs = []
  | c :: cs, xs => ∃ u ys, xs = .bool c.neg :: .int .i64 c.kind :: u :: ys ∧ TsAt B u c.terms w ∧ CsCells B w cs ys
theorem CsCells.row {B : Nat} {w w' : World} {base' : Nat} {e' : TypeId} {row : Option Nat} (hg : w.grownBy w' row) (hr : RowOk base' e' row w) (hne : e' ≠ 258) : ∀ (cs : List Sv.Cond) (xs : List Value), CsCells B w cs xs → CsCells B w' cs xs
  | [], _, h => h
  | _ :: cs, _, ⟨u, ys, h1, h2, h3⟩ => ⟨u, ys, h1, h2.row hg hr hne, CsCells.row hg hr hne cs ys h3⟩
theorem CsCells.snoc {B : Nat} {w : World} (c : Sv.Cond) (u : Value) (hu : TsAt B u c.terms w) : ∀ (cs : List Sv.Cond) (xs : List Value), CsCells B w cs xs → CsCells B w (cs ++ [c]) (xs ++ [.bool c.neg, .int .i64 c.kind, u])
  | [], xs, h => ⟨u, [], by rw [show xs = [] from h]; rfl, hu, rfl⟩
  | _ :: cs, _, ⟨v, ys, h1, h2, h3⟩ => ⟨v, ys ++ [.bool c.neg, .int .i64 c.kind, u], by rw [h1]; rfl, h2, CsCells.snoc c u hu cs ys h3⟩
theorem CsCells.weak {B B' : Nat} {w : World} (hB : B' ≤ B) : ∀ (cs : List Sv.Cond) (xs : List Value), CsCells B w cs xs → CsCells B' w cs xs
  | [], _, h => h
  | _ :: cs, _, ⟨u, ys, h1, h2, h3⟩ => ⟨u, ys, h1, own_weak h2 hB, CsCells.weak hB cs ys h3⟩
/-- A list of conditions lies behind a slice. -/
def CsAt (base : Nat) (v : Value) (cs : List Sv.Cond) (w : World) : Prop := ∃ xs, w.ownsRow base 200 3 v cs.length xs ∧ CsCells base w cs xs
theorem CsAt.slice {base : Nat} {u : Value} {cs : List Sv.Cond} {w : World} (h : CsAt base u cs w) : ∃ ao cap, u = .slice ao cs.length cap := by
  obtain ⟨xs, h, _⟩ := h
  rcases h.2 with ⟨h1, h2⟩ | ⟨g, cap, cur, h1, _⟩
  · exact ⟨none, 0, by rw [h2]; exact h1⟩
  · exact ⟨_, _, h1⟩
theorem CsAt.row {w w' : World} {base base' : Nat} {e' : TypeId} {v : Value} {cs : List Sv.Cond} {row : Option Nat} (h : CsAt base v cs w) (hg : w.grownBy w' row) (hr : RowOk base' e' row w) (hne : e' ≠ 258) (hne2 : e' ≠ 200) : CsAt base v cs w' := by
  obtain ⟨xs, h1, h2⟩ := h
  exact ⟨xs, own_row h1 hg hr hne2, CsCells.row hg hr hne cs xs h2⟩

def Sv.exCs (cs : List Sv.Cond) : Bool := decide (4 < cs.length) || cs.any Sv.exC
theorem Sv.exCs_snoc (f : Bool) (cs : List Sv.Cond) (c : Sv.Cond) (b : Bool) : (f || Sv.exCs (cs ++ [⟨b, c.kind, c.terms⟩])) = (f || Sv.exCs cs || decide (4 ≤ cs.length) || Sv.exC c) := by
  unfold Sv.exCs
  rw [List.length_append, List.length_singleton, List.any_append]
  have h := flag_more f 4 cs.length
  have h2 : [(⟨b, c.kind, c.terms⟩ : Sv.Cond)].any Sv.exC = Sv.exC c := by simp [Sv.exC]
  rw [h2, ← Bool.or_assoc, h]
  cases f <;> cases decide (4 < cs.length) <;> cases decide (4 ≤ cs.length) <;> cases cs.any Sv.exC <;> cases Sv.exC c <;> rfl
theorem Sv.exCs_one (f : Bool) (c : Sv.Cond) : (f || Sv.exCs [c]) = (f || Sv.exC c) := by simp [Sv.exCs]

theorem Sv.cdF_step (n : Nat) (l : List UInt8) (acc : List Sv.Cond) (i : Nat) : Sv.cdF (n + 1) l acc i =
    if (Sv.pk l (Sv.sk l i) == 59) = true then .inr (acc, Sv.sk l i + 1)
    else
      match Sv.cond l (if (Sv.pk l (Sv.sk l i) == 33) = true then Sv.sk l i + 1 else Sv.sk l i) with
      | .inl k => .inl k
      | .inr (c, j) => Sv.cdF n l (acc ++ [⟨Sv.pk l (Sv.sk l i) == 33, c.kind, c.terms⟩]) j := rfl

theorem Tryz.infoCond : (Tryz.prog.info? 200).map (fun i => (i.zero, i.size, i.bytes)) = some (some (.agg #[.bool false, .int .i64 0, .slice none 0 0]), 3, 40) := by kernel_rfl

/-- What the reader of conditions comes to. -/
def CondsPost (b : Nat) (s : ByteArray) (f : Bool) (eT eL : Value) (w : World) (r : Nat ⊕ (List Sv.Cond × Nat)) (e : Ending) (w' : World) : Prop :=
  match r with
  | .inl k => ∃ y, e = .returned (.tuple #[.slice none 0 0, y]) ∧ Bad b k eT w y w'
  | .inr (cs, j) => ∃ u, e = .returned (.tuple #[u, .nilIface]) ∧ CsAt w.heap.size u cs w' ∧ St b s j (f || Sv.exCs cs) eT eL w' ∧ w.grownBy w' (some b)

/-- What holds at the head of the loop. -/
def CLoop (b : Nat) (s : ByteArray) (f : Bool) (eT eL : Value) (w : World) (r : Nat ⊕ (List Sv.Cond × Nat)) (u : Value) (w' : World) : Prop :=
  ∃ (k n : Nat) (cs : List Sv.Cond), s.size < k + n ∧ k ≤ s.size ∧ cs.length ≤ k ∧ CsAt w.heap.size u cs w' ∧ St b s k (f || Sv.exCs cs) eT eL w' ∧ w.grownBy w' (some b) ∧ Sv.cdF n s.data.toList cs k = r

set_option maxHeartbeats 1000000 in
set_option maxRecDepth 100000 in
theorem conds_w (b : Nat) (s : ByteArray) (i : Nat) (f : Bool) (tT : TypeId) (aT : Addr) (tL : TypeId) (aL : Addr) (w : World) (hi : i ≤ s.size) (hs : s.size ≤ 400)
    (hb : St b s i f (.iface tT (.pointer (some aT))) (.iface tL (.pointer (some aL))) w) :
    Calls Tryz.prog 127 #[.pointer (some ⟨b, 0, none⟩)] w fun e w' => CondsPost b s f (.iface tT (.pointer (some aT))) (.iface tL (.pointer (some aL))) w (Sv.conds s.data.toList i) e w' := by
  obtain ⟨i0, hinf, hz0, hz1, hz2⟩ := info_parts Tryz.infoCond
  obtain ⟨hbT, hbL, hbB⟩ := hb.base
  generalize hr : Sv.conds s.data.toList i = r
  unfold Sv.conds at hr
  have HR := hide hr
  clear hr
  have hok := Sv.cond_ok s.data.toList i (by simpa using hi)
  go_enter Tryz.func127, Tryz.ntmps127
  go_wp2_with fail
  refine (cond_w b s i f tT aT tL aL w hi hs hb).mono ?_
  intro e w1 hp
  have HRo := unhide HR
  clear HR
  cases hc : Sv.cond s.data.toList i with
  | inl q =>
    rw [hc] at hp HRo
    subst HRo
    obtain ⟨y, rfl, ff, rfl, hf, hF, hg1⟩ := hp
    go_wp2
    go_ret2
    exact ⟨_, rfl, ff, rfl, hf, hF.kept (World.grownBy_alloc w1 _ none) (by simp), gr_trans hg1 (World.grownBy_alloc w1 _ _)⟩
  | inr q =>
    obtain ⟨c, j⟩ := q
    rw [hc] at hp HRo hok
    obtain ⟨u, rfl, hts, hst1, hg1⟩ := hp
    obtain ⟨ao, cap, rfl⟩ := hts.slice
    obtain ⟨hok1, hok2⟩ := hok
    rw [size_list] at hok2
    have HR := hide HRo
    clear HRo
    have HC := hide hc
    clear hc
    go_wp2_with fail
    go_loopw [6] (fun u w' => CLoop b s f (.iface tT (.pointer (some aT))) (.iface tL (.pointer (some aL))) w r u w') (fun _ w' => s.size - atOf b w')
    case atStart =>
      have hgA := World.grownBy_alloc w1 (.cells #[.bool c.neg, .int .i64 c.kind, .slice ao c.terms.length cap] 200) none
      have hgB := gr_trans hgA (World.grownBy_alloc (w1.alloc (.cells #[.bool c.neg, .int .i64 c.kind, .slice ao c.terms.length cap] 200)) (.cells #[.bool c.neg, .int .i64 c.kind, .slice ao c.terms.length cap] 200) none)
      have hsz := hg1.size
      have hown0 := World.ownsRow_lit (base := w.heap.size) (e := 200) (size := 3) (w1.alloc (.cells #[.bool c.neg, .int .i64 c.kind, .slice ao c.terms.length cap] 200)) #[.bool c.neg, .int .i64 c.kind, .slice ao c.terms.length cap] 1 (by simp; omega) (by decide) rfl
      rw [World.size_alloc] at hown0
      refine ⟨j, s.data.toList.length + 1, [c], by simp; omega, hok2, by simp; omega, ⟨_, hown0, ?_⟩, ?_, gr_trans hg1 (gr_any hgB (some b)), HR.out⟩
      · exact ⟨.slice ao c.terms.length cap, [], rfl, own_weak (TsAt.row hts hgB (RowOk.none 0 0 w1) (by decide)) (by first | exact Nat.le_refl _ | omega), rfl⟩
      · rw [Sv.exCs_one]
        exact hst1.row hgB (RowOk.none w.heap.size 200 w1) (by decide) (by decide) hbT hbL
    case round =>
      clear hts hst1 hg1 hok1 hok2 HR HC
      obtain ⟨k, m, acc, hkm, hk, hacc, hcs, hst, hg, hnm⟩ := hrel
      obtain ⟨m, rfl⟩ : ∃ m', m = m' + 1 := ⟨m - 1, by omega⟩
      rw [Sv.cdF_step] at hnm
      have HA := hide hst.at
      have hle := Sv.sk_le s.data.toList k (by simpa using hk)
      rw [size_list] at hle
      obtain ⟨hle1, hle2⟩ := hle
      obtain ⟨ao2, cap2, rfl⟩ := hcs.slice
      cases h59 : Sv.pk s.data.toList (Sv.sk s.data.toList k) == 59
      · rw [h59, if_neg (by simp)] at hnm
        have HN := hide hnm
        clear hnm
        obtain ⟨vx, hbk, hex, hG⟩ := hst
        go_wp2_with (go_at_call 156; refine (take_no b s k vx 59 _ rfl _ hk hs h59 hbk).mono ?_; rintro e w2 ⟨rfl, hb2, hg2⟩)
        refine (note_w b s _ _ tT aT tL aL w2 acc.length 4 _ _ rfl rfl (St.step hb2 hex hG hg2)).mono ?_
        rintro e w3 ⟨rfl, hst3, hg3⟩
        have hcs3 := (hcs.row hg2 hbk.rowOk (by decide) (by decide)).row hg3 hb2.rowOk (by decide) (by decide)
        have hg03 := gr_trans hg (gr_trans hg2 hg3)
        clear hcs hbk hex hG hb2 hg2 hg3 hg
        obtain ⟨vy, hb3, hex3, hG3⟩ := hst3
        go_wp2_with fail
        have hsk2 := Sv.sk_sk s.data.toList k
        have HX : ∃ x, Hid ((match Sv.cond s.data.toList x with
            | .inl k => .inl k
            | .inr (c, j) => Sv.cdF m s.data.toList (acc ++ [⟨Sv.pk s.data.toList (Sv.sk s.data.toList k) == 33, c.kind, c.terms⟩]) j) = r) ∧ k ≤ x ∧ x ≤ s.size ∧
            Calls Tryz.prog 156 #[.pointer (some ⟨b, 0, none⟩), .int .u8 33] w3 fun e w' => e = .returned (.bool (Sv.pk s.data.toList (Sv.sk s.data.toList k) == 33)) ∧ PAt b s x vy w' ∧ w3.grownBy w' (some b) := by
          cases h33 : Sv.pk s.data.toList (Sv.sk s.data.toList k) == 33
          · refine ⟨Sv.sk s.data.toList k, ?_, hle1, hle2, ?_⟩
            · have := unhide HN; rw [h33] at this; exact this
            · have := take_no b s (Sv.sk s.data.toList k) vy 33 33 rfl w3 hle2 hs (by rw [hsk2]; exact h33) hb3
              rw [hsk2] at this
              exact this
          · have hp33 := Sv.byte_pos _ _ 33 (by decide) h33
            rw [size_list] at hp33
            refine ⟨Sv.sk s.data.toList k + 1, ?_, by omega, hp33, ?_⟩
            · have := unhide HN; rw [h33] at this; exact this
            · have := take_yes b s (Sv.sk s.data.toList k) vy 33 33 rfl w3 hle2 hs (by rw [hsk2]; exact h33) hb3
              rw [hsk2] at this
              exact this
        clear hsk2
        obtain ⟨x, HN2, hkx, hxs, hcall⟩ := HX
        clear HN
        generalize (Sv.pk s.data.toList (Sv.sk s.data.toList k) == 33) = ng at *
        refine hcall.mono ?_
        rintro e w4 ⟨rfl, hb4, hg4⟩
        have hst4 := St.step hb4 hex3 hG3 hg4
        have hcs4 := hcs3.row hg4 hb3.rowOk (by decide) (by decide)
        have hg04 := gr_trans hg03 hg4
        clear hcall hcs3 hb3 hex3 hG3 hb4 hg4 hg03
        have hok := Sv.cond_ok s.data.toList x (by simpa using hxs)
        go_wp2_with fail
        refine (cond_w b s x _ tT aT tL aL w4 hxs hs hst4).mono ?_
        intro e w5 hp
        have HNo := unhide HN2
        clear HN2
        cases hc : Sv.cond s.data.toList x with
        | inl q =>
          rw [hc] at hp HNo
          obtain ⟨y, rfl, ff, rfl, hf, hF, hg5⟩ := hp
          simp only at HNo
          subst HNo
          have hf' : w.heap.size ≤ ff := Nat.le_trans hg04.size hf
          have hg05 := gr_trans hg04 hg5
          clear hst4 hcs4 hok hc
          go_wp2
          go_ret2
          exact ⟨_, rfl, ff, rfl, hf', hF.kept (World.grownBy_alloc w5 _ none) (by simp), gr_trans hg05 (World.grownBy_alloc w5 _ _)⟩
        | inr q =>
          obtain ⟨cc, j2⟩ := q
          have hneg := Sv.cond_neg _ _ _ _ hc
          rw [hc] at hp HNo hok
          obtain ⟨u5, he, hts5, hst5, hg5⟩ := hp
          obtain ⟨ao5, cap5, rfl⟩ := hts5.slice
          rw [hneg] at he
          subst he
          obtain ⟨hok1, hok2⟩ := hok
          rw [size_list] at hok2
          have HN := hide HNo
          clear HNo hc hneg
          have hcs5 := hcs4.row hg5 hst4.rowOk (by decide) (by decide)
          have hg05 := gr_trans hg04 hg5
          have hsz4 := hg04.size
          clear hst4 hcs4 hg5 hg04
          obtain ⟨xs, hown5, hcells5⟩ := hcs5
          have hgA := World.grownBy_alloc w5 (.cells #[.bool ng, .int .i64 cc.kind, .slice ao5 cc.terms.length cap5] 200) none
          have hgB := gr_trans hgA (World.grownBy_alloc (w5.alloc (.cells #[.bool ng, .int .i64 cc.kind, .slice ao5 cc.terms.length cap5] 200)) (.cells #[.bool ng, .int .i64 cc.kind, .slice ao5 cc.terms.length cap5] 200) none)
          have hrow := RowOk.of ((hown5.alloc (.cells #[.bool ng, .int .i64 cc.kind, .slice ao5 cc.terms.length cap5] 200)).alloc (.cells #[.bool ng, .int .i64 cc.kind, .slice ao5 cc.terms.length cap5] 200))
          have hst6 := hst5.row hgB (RowOk.none w.heap.size 200 w5) (by decide) (by decide) hbT hbL
          have hcells6 := CsCells.row hgB (RowOk.none 0 0 w5) (by decide) acc xs hcells5
          have hts6 : TsAt w.heap.size _ _ _ := own_weak (TsAt.row hts5 hgB (RowOk.none 0 0 w5) (by decide)) (by first | exact hsz4 | omega)
          have hg06 := gr_trans hg05 (gr_any hgB (some b))
          have hsz5 := hg05.size
          clear hgA hgB hcells5 hts5 hst5
          go_wp2_with (at_builtin; refine wpList_append_own _ rfl _ _ 126 rfl w.heap.size 200 i0 (.agg #[.bool false, .int .i64 0, .slice none 0 0]) 3 40 Tryz.underlying126 hinf hz0 hz1 hz2 rfl (by decide) _ acc.length xs rfl ((hown5.alloc _).alloc _) ⟨w5.heap.size + 1, 0, none⟩ 1 1 [.bool ng, .int .i64 cc.kind, .slice ao5 cc.terms.length cap5] rfl rfl ?c1 ?c2 ?c3 ?c4 ?c5 ?_)
          case c1 =>
            intro jj u hu
            match jj, hu with
            | 0, hu => simp at hu; subst hu; simp [Addr.add]
            | 1, hu => simp at hu; subst hu; simp [Addr.add]
            | 2, hu => simp at hu; subst hu; simp [Addr.add]
            | n + 3, hu => simp at hu
          case c2 =>
            intro u hu
            simp at hu
            rcases hu with rfl | rfl | rfl <;> rfl
          case c3 => unfold maxLen; omega
          case c4 => omega
          case c5 => simp; omega
          intro v' w7 hown hgrow _
          have hst7 := hst6.row hgrow hrow (by decide) (by decide) hbT hbL
          have hg07 := gr_owns hg06 hgrow hrow
          have HA7 := hide hst7.at
          have hcells7 := CsCells.row hgrow hrow (by decide) acc xs hcells6
          have hts7 := TsAt.row hts6 hgrow hrow (by decide)
          have hcs7 : CsAt w.heap.size v' (acc ++ [⟨ng, cc.kind, cc.terms⟩]) w7 := ⟨_, by rw [List.length_append]; exact hown, CsCells.snoc (⟨ng, cc.kind, cc.terms⟩ : Sv.Cond) _ hts7 acc xs hcells7⟩
          rw [← Sv.exCs_snoc f acc cc ng] at hst7
          clear hown hgrow hst6 hg06 hown5 hrow hcells6 hcells7 hts6 hts7
          go_wp2
          go_roundw
          case rel => exact ⟨j2, m, acc ++ [⟨ng, cc.kind, cc.terms⟩], by omega, by omega, by simp; omega, hcs7, hst7, hg07, unhide HN⟩
          case measure => rw [unhide HA7, unhide HA]; omega
      · rw [h59, if_pos rfl] at hnm
        subst hnm
        obtain ⟨vx, hbk, hex, hG⟩ := hst
        go_wp2_with (go_at_call 156; refine (take_yes b s k vx 59 _ rfl _ hk hs h59 hbk).mono ?_; rintro e w2 ⟨rfl, hb2, hg2⟩)
        go_ret2
        exact ⟨_, rfl, hcs.row hg2 hbk.rowOk (by decide) (by decide), St.step hb2 hex hG hg2, gr_trans hg hg2⟩

end Go.Proofs.YtolhbeekfjnfmaaGreatDoor

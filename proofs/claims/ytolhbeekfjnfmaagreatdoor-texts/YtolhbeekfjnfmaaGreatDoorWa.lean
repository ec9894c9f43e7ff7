/- The reader's small steps: blanks, one byte, excess. -/
import Derived.Test.YtolhbeekfjnfmaaGreatDoorMem
namespace Go.Proofs.YtolhbeekfjnfmaaGreatDoor
open Go.RowKit

theorem peekd_w (b : Nat) (s : ByteArray) (i : Nat) (v : Value) (w : World) (n : Nat) (hi : i ≤ s.size) (hs : s.size ≤ 400) (hb : PAt b s i v w) :
    Calls Tryz.prog 124 #[.pointer (some ⟨b, 0, none⟩)] (w.drewN n) fun e w' => e = .returned (.int .u8 (Sv.pk s.data.toList i).toNat) ∧ ∃ m, w' = w.drewN m := by
  refine (peek_w b s i v (w.drewN n) hi hs hb).mono ?_
  rintro e w' ⟨rfl, m, rfl⟩
  exact ⟨rfl, _, World.drewN_drewN _ _ _⟩

theorem u8_inj (c d : UInt8) : ((c.toNat : Int) == (d.toNat : Int)) = (c == d) := by
  rw [Bool.eq_iff_iff]; simp [← UInt8.toNat_inj]; omega
theorem u8_32 (c : UInt8) : ((c.toNat : Int) == 32) = (c == 32) := u8_inj c 32
theorem u8_10 (c : UInt8) : ((c.toNat : Int) == 10) = (c == 10) := u8_inj c 10

set_option maxHeartbeats 400000 in
theorem skip_w (b : Nat) (s : ByteArray) (i : Nat) (v : Value) (w : World) (hi : i ≤ s.size) (hs : s.size ≤ 400) (hb : PAt b s i v w) :
    Calls Tryz.prog 88 #[.pointer (some ⟨b, 0, none⟩)] w fun e w' => e = .returned (.tuple #[]) ∧ PAt b s (Sv.sk s.data.toList i) v w' ∧ w.grownBy w' (some b) := by
  go_enter Tryz.func88, Tryz.ntmps88
  go_wp2
  go_loopw [] (fun w' => ∃ k : Nat, k ≤ s.size ∧ PAt b s k v w' ∧ w.grownBy w' (some b) ∧ Sv.sk s.data.toList k = Sv.sk s.data.toList i) (fun w' => s.size - atOf b w')
  case atStart => exact ⟨i, hi, hb, World.grownBy.refl _ _, rfl⟩
  case round =>
    obtain ⟨k, hk, hbk, hg, hsk⟩ := hrel
    have HS : Hid (Sv.sk s.data.toList k = Sv.sk s.data.toList i) := hsk
    clear hsk
    have hat := hbk.at
    have HA : Hid (atOf b wr = k) := hat
    clear hat
    cases h1 : Sv.pk s.data.toList k == 32
    · cases h2 : Sv.pk s.data.toList k == 10
      · have hno := Sv.sk_no s.data.toList k (by simp [Sv.blB, h1, h2])
        have HN : Hid (Sv.sk s.data.toList k = k) := hno
        clear hno
        have e1 := (u8_32 (Sv.pk s.data.toList k)).trans h1
        have e2 := (u8_10 (Sv.pk s.data.toList k)).trans h2
        clear h1 h2
        go_wp2_with (go_at_call 124; refine (peek_w b s k v _ hk hs (by first | exact hbk | exact hbk.drewN _)).mono ?_; rintro e w' ⟨rfl, n, rfl⟩)
        go_end0
        refine ⟨rfl, ?_, ?_⟩
        · rw [← HS.out, HN.out]; exact hbk
        · exact gr_trans hg (gr_drewN _ _ _)
      · have hyes := Sv.sk_yes s.data.toList k (by simp [Sv.blB, h2])
        rw [size_list] at hyes
        obtain ⟨hn, hlt⟩ := hyes
        have HN : Hid (Sv.sk s.data.toList k = Sv.sk s.data.toList (k + 1)) := hn
        clear hn
        have e1 := (u8_32 (Sv.pk s.data.toList k)).trans h1
        have e2 := (u8_10 (Sv.pk s.data.toList k)).trans h2
        clear h1 h2
        have c1 := hbk.c1
        have f1 := hbk.fz 1
        go_wp2_with (go_at_call 124; refine (peek_w b s k v _ hk hs (by first | exact hbk | exact hbk.drewN _)).mono ?_; rintro e w' ⟨rfl, n, rfl⟩)
        go_roundw
        case rel => exact ⟨k + 1, by omega, (PAt.set1 hbk (k + 1)), gr_trans hg (gr_trans (gr_set wr b 1 _) (gr_drewN _ _ _)), by rw [← HN.out]; exact HS.out⟩
        case measure =>
          have h2 : atOf b ((wr.setCell ⟨b, 1, none⟩ (.int .i64 ((k + 1 : Nat) : Int)))) = k + 1 := (PAt.set1 hbk (k + 1)).at
          show s.size - atOf b ((wr.setCell ⟨b, 1, none⟩ (.int .i64 ((k + 1 : Nat) : Int)))) < s.size - atOf b wr
          rw [h2, HA.out]; omega
    · have hyes := Sv.sk_yes s.data.toList k (by simp [Sv.blB, h1])
      rw [size_list] at hyes
      obtain ⟨hn, hlt⟩ := hyes
      have HN : Hid (Sv.sk s.data.toList k = Sv.sk s.data.toList (k + 1)) := hn
      clear hn
      have e1 := (u8_32 (Sv.pk s.data.toList k)).trans h1
      clear h1
      have c1 := hbk.c1
      have f1 := hbk.fz 1
      go_wp2_with (go_at_call 124; refine (peek_w b s k v _ hk hs (by first | exact hbk | exact hbk.drewN _)).mono ?_; rintro e w' ⟨rfl, n, rfl⟩)
      go_roundw
      case rel => exact ⟨k + 1, by omega, (PAt.set1 hbk (k + 1)), gr_trans hg (gr_trans (gr_set wr b 1 _) (gr_drewN _ _ _)), by rw [← HN.out]; exact HS.out⟩
      case measure =>
        have h2 : atOf b ((wr.setCell ⟨b, 1, none⟩ (.int .i64 ((k + 1 : Nat) : Int)))) = k + 1 := (PAt.set1 hbk (k + 1)).at
        show s.size - atOf b ((wr.setCell ⟨b, 1, none⟩ (.int .i64 ((k + 1 : Nat) : Int)))) < s.size - atOf b wr
        rw [h2, HA.out]; omega

theorem u8_ne (c d : UInt8) (h : (c == d) = false) : ((c.toNat : Int) != (d.toNat : Int)) = true := by rw [bne, u8_inj, h]; rfl
theorem u8_eq (c d : UInt8) (h : (c == d) = true) : ((c.toNat : Int) != (d.toNat : Int)) = false := by rw [bne, u8_inj, h]; rfl

set_option maxHeartbeats 400000 in
/-- A byte that is asked for, behind blanks: it stands there. -/
theorem take_yes (b : Nat) (s : ByteArray) (i : Nat) (v : Value) (c : UInt8) (x : Int) (hx : x = c.toNat) (w : World) (hi : i ≤ s.size) (hs : s.size ≤ 400) (h : (Sv.pk s.data.toList (Sv.sk s.data.toList i) == c) = true) (hb : PAt b s i v w) :
    Calls Tryz.prog 156 #[.pointer (some ⟨b, 0, none⟩), .int .u8 x] w fun e w' => e = .returned (.bool true) ∧ PAt b s (Sv.sk s.data.toList i + 1) v w' ∧ w.grownBy w' (some b) := by
  subst hx
  have hle := Sv.sk_le s.data.toList i (by simpa using hi)
  rw [size_list] at hle
  obtain ⟨hle1, hle2⟩ := hle
  have e1 := u8_eq _ _ h
  clear h
  go_enter Tryz.func156, Tryz.ntmps156
  go_wp2_with (go_at_call 88; refine (skip_w b s i v _ hi hs hb).mono ?_; rintro e w1 ⟨rfl, hb1, hg1⟩)
  refine (peek_w b s _ v _ hle2 hs hb1).mono ?_
  rintro e w2 ⟨rfl, n, rfl⟩
  have c1 := hb1.c1
  have f1 := hb1.fz 1
  go_wp2
  go_ret
  exact ⟨rfl, PAt.set1 hb1 _, gr_trans hg1 (gr_trans (gr_set w1 b 1 _) (gr_drewN _ _ _))⟩

set_option maxHeartbeats 400000 in
/-- A byte that is asked for, behind blanks: it does not stand there. -/
theorem take_no (b : Nat) (s : ByteArray) (i : Nat) (v : Value) (c : UInt8) (x : Int) (hx : x = c.toNat) (w : World) (hi : i ≤ s.size) (hs : s.size ≤ 400) (h : (Sv.pk s.data.toList (Sv.sk s.data.toList i) == c) = false) (hb : PAt b s i v w) :
    Calls Tryz.prog 156 #[.pointer (some ⟨b, 0, none⟩), .int .u8 x] w fun e w' => e = .returned (.bool false) ∧ PAt b s (Sv.sk s.data.toList i) v w' ∧ w.grownBy w' (some b) := by
  subst hx
  have hle := Sv.sk_le s.data.toList i (by simpa using hi)
  rw [size_list] at hle
  obtain ⟨hle1, hle2⟩ := hle
  have e1 := u8_ne _ _ h
  clear h
  go_enter Tryz.func156, Tryz.ntmps156
  go_wp2_with (go_at_call 88; refine (skip_w b s i v _ hi hs hb).mono ?_; rintro e w1 ⟨rfl, hb1, hg1⟩)
  refine (peek_w b s _ v _ hle2 hs hb1).mono ?_
  rintro e w2 ⟨rfl, n, rfl⟩
  go_wp2
  go_ret
  exact ⟨rfl, hb1, gr_trans hg1 (gr_drewN _ _ _)⟩

set_option maxHeartbeats 400000 in
theorem expect_yes (b : Nat) (s : ByteArray) (i : Nat) (v : Value) (c : UInt8) (x : Int) (hx : x = c.toNat) (w : World) (hi : i ≤ s.size) (hs : s.size ≤ 400) (h : (Sv.pk s.data.toList (Sv.sk s.data.toList i) == c) = true) (hb : PAt b s i v w) :
    Calls Tryz.prog 126 #[.pointer (some ⟨b, 0, none⟩), .int .u8 x] w fun e w' => e = .returned .nilIface ∧ PAt b s (Sv.sk s.data.toList i + 1) v w' ∧ w.grownBy w' (some b) := by
  subst hx
  go_enter Tryz.func126, Tryz.ntmps126
  go_wp2_with (go_at_call 156; refine (take_yes b s i v c _ rfl _ hi hs h hb).mono ?_; rintro e w1 ⟨rfl, hb1, hg1⟩)
  go_ret
  exact ⟨rfl, hb1, hg1⟩

/-- What a step hands back that finds the text wrong: a new fault, at this place. -/
def Bad (b : Nat) (i : Nat) (eT : Value) (w : World) (x : Value) (w' : World) : Prop :=
  ∃ f, x = .iface 112 (.pointer (some ⟨f, 0, none⟩)) ∧ w.heap.size ≤ f ∧ FAt f i eT w' ∧ w.grownBy w' (some b)
theorem Bad.behind {b i : Nat} {eT x : Value} {w w1 w' : World} (h : Bad b i eT w1 x w') (g : w.grownBy w1 (some b)) : Bad b i eT w x w' := by
  obtain ⟨f, hx, hf, hF, hg⟩ := h
  exact ⟨f, hx, Nat.le_trans g.size hf, hF, gr_trans g hg⟩

set_option maxHeartbeats 400000 in
theorem expect_no (b : Nat) (s : ByteArray) (i : Nat) (v : Value) (c : UInt8) (x : Int) (hx : x = c.toNat) (w : World) (tT : TypeId) (aT : Addr) (eL : Value) (hi : i ≤ s.size) (hs : s.size ≤ 400) (h : (Sv.pk s.data.toList (Sv.sk s.data.toList i) == c) = false) (hb : PAt b s i v w) (hG : GOk b (.iface tT (.pointer (some aT))) eL w) :
    Calls Tryz.prog 126 #[.pointer (some ⟨b, 0, none⟩), .int .u8 x] w fun e w' => ∃ y, e = .returned y ∧ Bad b (Sv.sk s.data.toList i) (.iface tT (.pointer (some aT))) w y w' := by
  subst hx
  go_enter Tryz.func126, Tryz.ntmps126
  go_wp2_with (go_at_call 156; refine (take_no b s i v c _ rfl _ hi hs h hb).mono ?_; rintro e w1 ⟨rfl, hb1, hg1⟩)
  refine (wrong_w b s _ v _ tT aT hb1 (hG.kept hg1).cT).mono ?_
  rintro e w2 ⟨f, rfl, hf, hF, hg2⟩
  have hg := gr_trans hg1 (gr_any hg2 (some b))
  have hf' : w.heap.size ≤ f := Nat.le_trans hg1.size hf
  go_wp2
  go_ret
  exact ⟨_, rfl, f, rfl, hf', hF, hg⟩

/-- The reader's excess: none, or a fault that says so. -/
def Ex (f : Bool) (eL : Value) (b : Nat) (v : Value) (w : World) : Prop :=
  (f = false ∧ v = .pointer none) ∨ (f = true ∧ ∃ g i, v = .pointer (some ⟨g, 0, none⟩) ∧ g ≠ b ∧ FAt g i eL w)
theorem Ex.kept {f : Bool} {eL : Value} {b : Nat} {v : Value} {w w' : World} (h : Ex f eL b v w) (g : w.grownBy w' (some b)) : Ex f eL b v w' := by
  rcases h with h | ⟨h1, k, i, h2, h3, h4⟩
  · exact .inl h
  · exact .inr ⟨h1, k, i, h2, h3, h4.kept g (by simpa using h3)⟩

/-- The reader stands at place i, its excess is f or not; what it leans on is there. -/
def St (b : Nat) (s : ByteArray) (i : Nat) (f : Bool) (eT eL : Value) (w : World) : Prop := ∃ v, PAt b s i v w ∧ Ex f eL b v w ∧ GOk b eT eL w
theorem St.step {b : Nat} {s : ByteArray} {j : Nat} {f : Bool} {eT eL v : Value} {w w' : World} (h : PAt b s j v w') (hx : Ex f eL b v w) (hG : GOk b eT eL w) (g : w.grownBy w' (some b)) : St b s j f eT eL w' :=
  ⟨v, h, hx.kept g, hG.kept g⟩

set_option maxHeartbeats 400000 in
theorem note_w (b : Nat) (s : ByteArray) (i : Nat) (f : Bool) (tT : TypeId) (aT : Addr) (tL : TypeId) (aL : Addr) (w : World) (k m : Nat) (x y : Int) (hx : x = k) (hy : y = m)
    (hb : St b s i f (.iface tT (.pointer (some aT))) (.iface tL (.pointer (some aL))) w) :
    Calls Tryz.prog 89 #[.pointer (some ⟨b, 0, none⟩), .int .i64 x, .int .i64 y] w fun e w' => e = .returned (.tuple #[]) ∧ St b s i (f || decide (m ≤ k)) (.iface tT (.pointer (some aT))) (.iface tL (.pointer (some aL))) w' ∧ w.grownBy w' (some b) := by
  subst hx hy
  obtain ⟨v, hp, hex, hG⟩ := hb
  have c1 := hp.c1
  have c2 := hp.c2
  have f2 := hp.fz 2
  have cL := hG.cL
  by_cases hkm : m ≤ k
  · have e1 : decide ((m : Int) ≤ (k : Int)) = true := by simp; omega
    rcases hex with ⟨rfl, rfl⟩ | ⟨rfl, g, j, rfl, hgb, hF⟩
    · have cA := fun o => (cell_al w o b 2 hp.lt).trans c2
      have fA := fun o => (frozen_al w o b 2 hp.lt).trans f2
      go_enter Tryz.func89, Tryz.ntmps89
      go_wp2
      go_region
      all_goals
        go_wp2
        go_end0
        have hlt := hp.lt
        have g1 := World.grownBy_alloc w (Obj.cells #[Value.int IntKind.i64 ↑i, Value.iface tL (Value.pointer (some aL))] 114) (some b)
        have g2 := gr_trans g1 (gr_set (w.alloc (Obj.cells #[Value.int IntKind.i64 ↑i, Value.iface tL (Value.pointer (some aL))] 114)) b 2 (Value.pointer (some { block := w.heap.size, off := 0 })))
        have hP1 := hp.kept (World.grownBy_alloc w (Obj.cells #[Value.int IntKind.i64 ↑i, Value.iface tL (Value.pointer (some aL))] 114) none) (by simp)
        have hF1 : FAt w.heap.size i (Value.iface tL (Value.pointer (some aL))) (w.alloc (Obj.cells #[Value.int IntKind.i64 ↑i, Value.iface tL (Value.pointer (some aL))] 114)) := heap_alloc_new _ _
        have hF2 := hF1.kept (gr_set (w.alloc (Obj.cells #[Value.int IntKind.i64 ↑i, Value.iface tL (Value.pointer (some aL))] 114)) b 2 (Value.pointer (some { block := w.heap.size, off := 0 }))) (by simp; omega)
        exact ⟨rfl, ⟨_, hP1.set2 _, .inr ⟨by simp [hkm], w.heap.size, i, rfl, by omega, hF2⟩, hG.kept (gr_drew g2)⟩, gr_drew g2⟩
    · go_enter Tryz.func89, Tryz.ntmps89
      go_wp2
      go_end0
      exact ⟨rfl, ⟨_, hp, .inr ⟨by simp, g, j, rfl, hgb, hF⟩, hG⟩, World.grownBy.refl _ _⟩
  · have e1 : decide ((m : Int) ≤ (k : Int)) = false := by simp; omega
    go_enter Tryz.func89, Tryz.ntmps89
    go_wp2
    go_end0
    exact ⟨rfl, ⟨v, hp, by simpa [hkm] using hex, hG⟩, World.grownBy.refl _ _⟩

end Go.Proofs.YtolhbeekfjnfmaaGreatDoor

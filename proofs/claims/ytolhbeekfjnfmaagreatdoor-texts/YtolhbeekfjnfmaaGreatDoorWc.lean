/- The reader's numbers and terms. -/
import Derived.Test.YtolhbeekfjnfmaaGreatDoorWb
namespace Go.Proofs.YtolhbeekfjnfmaaGreatDoor
open Go.RowKit

theorem Sv.ndF_step (n : Nat) (l : List UInt8) (v i : Nat) : Sv.ndF (n + 1) l v i = if Sv.digB (Sv.pk l i) = true then Sv.ndF n l (v * 10 + ((Sv.pk l i).toNat - 48)) (i + 1) else (v, i) := rfl
theorem Sv.nd_first (l : List UInt8) (i : Nat) (h : (Sv.ndF 9 l 0 i).2 = i) : Sv.digB (Sv.pk l i) = false := by
  cases hc : Sv.digB (Sv.pk l i)
  · rfl
  · exfalso
    rw [show (9 : Nat) = 8 + 1 from rfl, Sv.ndF_step, if_pos hc] at h
    have := (Sv.ndF_le 8 l (0 * 10 + ((Sv.pk l i).toNat - 48)) (i + 1) (Sv.dig_pos l i hc)).1
    omega
theorem u8_45 (c : UInt8) : ((c.toNat : Int) == 45) = (c == 45) := u8_inj c 45

/-- A term's own cells, where a call lays its result. -/
def TAt (N : Nat) (x y z : Value) (w : World) : Prop := w.heap[N]? = some (.cells #[x, y, z] 258 (0, 0))
theorem TAt.kept {N : Nat} {x y z : Value} {w w' : World} {row : Option Nat} (h : TAt N x y z w) (g : w.grownBy w' row) (hne : some N ≠ row) : TAt N x y z w' := by
  unfold TAt; rw [g.block N (Array.getElem?_eq_some_iff.1 h).1 hne]; exact h
theorem TAt.drewN {N : Nat} {x y z : Value} {w : World} (h : TAt N x y z w) (n : Nat) : TAt N x y z (w.drewN n) := h
theorem TAt.lt {N : Nat} {x y z : Value} {w : World} (h : TAt N x y z w) : N < w.heap.size := (Array.getElem?_eq_some_iff.1 h).1
theorem TAt.c {N : Nat} {x y z : Value} {w : World} (h : TAt N x y z w) : w.cell? ⟨N, 0, none⟩ = some x ∧ w.cell? ⟨N, 1, none⟩ = some y ∧ w.cell? ⟨N, 2, none⟩ = some z := by
  unfold TAt at h; simp [World.cell?, h]
theorem TAt.fz {N : Nat} {x y z : Value} {w : World} (h : TAt N x y z w) (o : Nat) : w.frozen? ⟨N, o, none⟩ = false := by
  unfold TAt at h; simp [World.frozen?, h]

theorem gr_set3 (w : World) (N : Nat) (x y z : Value) : w.grownBy (((w.setCell ⟨N, 0, none⟩ x).setCell ⟨N, 1, none⟩ y).setCell ⟨N, 2, none⟩ z) (some N) :=
  gr_trans (gr_trans (gr_set w N 0 x) (gr_set _ N 1 y)) (gr_set _ N 2 z)
theorem TAt.set3 {N : Nat} {a b c : Value} {w : World} (h : TAt N a b c w) (x y z : Value) : TAt N x y z (((w.setCell ⟨N, 0, none⟩ x).setCell ⟨N, 1, none⟩ y).setCell ⟨N, 2, none⟩ z) := by
  unfold TAt at h ⊢
  have h1 := heap_setCell_same w N 0 _ _ x h
  have h2 := heap_setCell_same _ N 1 _ _ y h1
  have h3 := heap_setCell_same _ N 2 _ _ z h2
  rw [h3]; rfl
/-- A block of the call's own is written: of what was there nothing turns. -/
theorem gr_own {w a c : World} {row : Option Nat} {N : Nat} (h : w.grownBy a row) (k : a.grownBy c (some N)) (hN : w.heap.size ≤ N) : w.grownBy c row :=
  ⟨k.os.trans h.os, k.tape.trans h.tape, k.output.trans h.output, Nat.le_trans h.size k.size, fun i hi hne => (k.block i (Nat.lt_of_lt_of_le hi h.size) (by simp; omega)).trans (h.block i hi hne)⟩
theorem Bad.own {b i : Nat} {eT x : Value} {w a c : World} {N : Nat} (h : Bad b i eT w x a) (k : a.grownBy c (some N)) (hN : w.heap.size ≤ N) (hf : ∀ f, x = .iface 112 (.pointer (some ⟨f, 0, none⟩)) → f ≠ N) : Bad b i eT w x c := by
  obtain ⟨f, hx, hf', hF, hg⟩ := h
  exact ⟨f, hx, hf', hF.kept k (by simpa using hf f hx), gr_own hg k hN⟩
theorem gr_un {w w' : World} {n : Nat} {row : Option Nat} (h : (w.drewN n).grownBy w' row) : w.grownBy w' row := ⟨h.os, h.tape, h.output, h.size, h.block⟩

set_option maxHeartbeats 400000 in
theorem number_no0 (b : Nat) (s : ByteArray) (i : Nat) (v : Value) (w : World) (tT : TypeId) (aT : Addr) (eL : Value) (hi : i ≤ s.size) (hs : s.size ≤ 400) (hm : (Sv.pk s.data.toList i == 45) = false) (h : (Sv.ndF 9 s.data.toList 0 i).2 = i) (hb : PAt b s i v w) (hG : GOk b (.iface tT (.pointer (some aT))) eL w) :
    Calls Tryz.prog 210 #[.pointer (some ⟨b, 0, none⟩)] w fun e w' => ∃ y, e = .returned (.tuple #[.agg #[.int .i64 0, .int .u8 0, .int .i64 0], y]) ∧ Bad b i (.iface tT (.pointer (some aT))) w y w' := by
  have hl := Sv.nd_first _ _ h
  have em := (u8_45 (Sv.pk s.data.toList i)).trans hm
  clear h hm
  have hp0 := fun o => hb.kept (World.grownBy_alloc w o none) (by simp)
  have c1 := fun o => (hp0 o).c1
  have cT := fun o => (hG.kept (World.grownBy_alloc w o (some b))).cT
  have e1 : ((i : Int) == (i : Int)) = true := by simp
  go_enter Tryz.func210, Tryz.ntmps210
  go_wp2_with (go_at_call 124; refine (peek_w b s i v _ hi hs (hp0 _)).mono ?_; rintro e w1 ⟨rfl, n, rfl⟩)
  go_loopw [6] (fun x w' => x = .int .i64 0 ∧ w' = (w.alloc (.cells #[.int .i64 0, .int .u8 0, .int .i64 0] 258)).drewN n) (fun _ _ => 0)
  case atStart => exact ⟨rfl, rfl⟩
  case round =>
    obtain ⟨rfl, rfl⟩ := hrel
    go_wp2_with (first | (go_at_call 124; refine (peek_w b s i v _ hi hs ((hp0 _).drewN _)).mono ?_; rintro e w1 ⟨rfl, n2, rfl⟩) | (go_at_call 198; refine (isDigit_w _ _).mono ?_; rintro e w3 ⟨rfl, rfl⟩))
    refine (wrong_w b s _ v _ tT aT ((hp0 _).drewN _) (cT _)).mono ?_
    rintro e w4 ⟨f, rfl, hf, hF, hg2⟩
    have hN : TAt w.heap.size (.int .i64 0) (.int .u8 0) (.int .i64 0) (w.alloc (.cells #[.int .i64 0, .int .u8 0, .int .i64 0] 258)) := heap_alloc_new _ _
    have hN4 := hN.kept (gr_un hg2) (by simp)
    obtain ⟨d0, d1, d2⟩ := hN4.c
    have z0 := hN4.fz 0
    have z1 := hN4.fz 1
    have z2 := hN4.fz 2
    go_wp2
    have k3 := gr_set3 w4 w.heap.size (.int .i64 0) (.int .u8 0) (.int .i64 0)
    obtain ⟨q0, q1, q2⟩ := (hN4.set3 (.int .i64 0) (.int .u8 0) (.int .i64 0)).c
    have hg := gr_trans (World.grownBy_alloc w (.cells #[.int .i64 0, .int .u8 0, .int .i64 0] 258) (some b)) (gr_any (gr_un hg2) (some b))
    have hf1 : w.heap.size + 1 ≤ f := by simpa using hf
    refine bodyPost_ret (v := .tuple #[.agg #[.int .i64 0, .int .u8 0, .int .i64 0], .iface 112 (.pointer (some ⟨f, 0, none⟩))]) (by simp [results, Tryz.results210, go_sem, q0, q1, q2]) rfl ⟨_, rfl, f, rfl, by omega, hF.kept k3 (by simp; omega), gr_own hg k3 (Nat.le_refl _)⟩

theorem int_eq {k : IntKind} {a b : Int} (h : a = b) : Value.int k a = Value.int k b := by rw [h]
theorem Sv.nd_bd (a n d : Nat) (h : (a + 1) * 10 ^ (n + 1) ≤ 1000000000) (hd : d ≤ 9) : (a * 10 + d + 1) * 10 ^ n ≤ 1000000000 := by
  have h3 : (a * 10 + d + 1) * 10 ^ n ≤ ((a + 1) * 10) * 10 ^ n := Nat.mul_le_mul_right _ (by omega)
  rw [Nat.pow_succ, Nat.mul_comm (10 ^ n) 10, ← Nat.mul_assoc] at h
  omega
theorem Sv.nd_bd0 (a n : Nat) (h : (a + 1) * 10 ^ n ≤ 1000000000) : a < 1000000000 := by
  have : 0 < 10 ^ n := Nat.pow_pos (by omega)
  have : (a + 1) * 1 ≤ (a + 1) * 10 ^ n := Nat.mul_le_mul_left _ this
  omega

set_option maxHeartbeats 1000000 in
theorem number_yes0 (b : Nat) (s : ByteArray) (i : Nat) (v : Value) (w : World) (hi : i ≤ s.size) (hs : s.size ≤ 400) (hm : (Sv.pk s.data.toList i == 45) = false) (rv rk : Nat) (h : Sv.ndF 9 s.data.toList 0 i = (rv, rk)) (hrk : rk ≠ i) (hb : PAt b s i v w) :
    Calls Tryz.prog 210 #[.pointer (some ⟨b, 0, none⟩)] w fun e w' => e = .returned (.tuple #[.agg #[.int .i64 2, .int .u8 0, .int .i64 rv], .nilIface]) ∧ PAt b s rk v w' ∧ w.grownBy w' (some b) := by
  have em := (u8_45 (Sv.pk s.data.toList i)).trans hm
  have HR : Hid (Sv.ndF 9 s.data.toList 0 i = (rv, rk)) := h
  clear h hm
  have hp0 := fun o => hb.kept (World.grownBy_alloc w o none) (by simp)
  have c1 := fun o => (hp0 o).c1
  go_enter Tryz.func210, Tryz.ntmps210
  go_wp2_with (go_at_call 124; refine (peek_w b s i v _ hi hs (hp0 _)).mono ?_; rintro e w1 ⟨rfl, n, rfl⟩)
  go_loopw [6] (fun x w' => ∃ k n acc : Nat, k + n = i + 9 ∧ k ≤ s.size ∧ i ≤ k ∧ (acc + 1) * 10 ^ n ≤ 1000000000 ∧ x = .int .i64 acc ∧ PAt b s k v w' ∧ TAt w.heap.size (.int .i64 0) (.int .u8 0) (.int .i64 0) w' ∧ w.grownBy w' (some b) ∧ Sv.ndF n s.data.toList acc k = (rv, rk)) (fun _ w' => s.size - atOf b w')
  case atStart => exact ⟨i, 9, 0, rfl, hi, Nat.le_refl _, by decide, rfl, hp0 _, heap_alloc_new _ _, gr_trans (World.grownBy_alloc w _ (some b)) (gr_drewN _ _ _), HR.out⟩
  case round =>
    obtain ⟨k, m, acc, hkm, hk, hik, hacc, rfl, hbk, hN, hg, hnm⟩ := hrel
    have HN : Hid (Sv.ndF m s.data.toList acc k = (rv, rk)) := hnm
    have HK : Hid (k + m = i + 9) := hkm
    have HC : Hid ((acc + 1) * 10 ^ m ≤ 1000000000) := hacc
    have HA : Hid (atOf b wr = k) := hbk.at
    have hacc0 := Sv.nd_bd0 acc m hacc
    clear hnm hkm c1 hacc
    have c1 := hbk.c1
    have f1 := hbk.fz 1
    have hne : w.heap.size ≠ b := by have := hb.lt; omega
    obtain ⟨d0, d1, d2⟩ := hN.c
    have z0 := hN.fz 0
    have z1 := hN.fz 1
    have z2 := hN.fz 2
    have hacc1 : (0 : Int) ≤ (acc : Int) := by omega
    have hacc2 : (acc : Int) < 1000000000 := by omega
    cases hl : Sv.digB (Sv.pk s.data.toList k)
    · obtain ⟨rfl, rfl⟩ : acc = rv ∧ k = rk := by
        have := HN.out
        cases m with
        | zero => simpa [Sv.ndF] using this
        | succ m => rw [Sv.ndF_step, hl] at this; simpa using this
      have e1 : ((k : Int) == (i : Int)) = false := by simp; omega
      go_wp2_with (first | (go_at_call 124; refine (peek_w b s k v _ hk hs hbk).mono ?_; rintro e w1 ⟨rfl, n2, rfl⟩) | (go_at_call 198; refine (isDigit_w _ _).mono ?_; rintro e w3 ⟨rfl, rfl⟩))
      have k3 := gr_set3 (wr.drewN n2) w.heap.size (.int .i64 2) (.int .u8 0) (.int .i64 acc)
      obtain ⟨q0, q1, q2⟩ := ((hN.drewN n2).set3 (.int .i64 2) (.int .u8 0) (.int .i64 acc)).c
      refine bodyPost_ret (v := .tuple #[.agg #[.int .i64 2, .int .u8 0, .int .i64 acc], .nilIface]) (by simp [results, Tryz.results210, go_sem, q0, q1, q2]) rfl ⟨rfl, (hbk.drewN n2).kept k3 (by simp; omega), gr_own (gr_trans hg (gr_drewN _ _ _)) k3 (Nat.le_refl _)⟩
    · have hkp := Sv.dig_pos _ _ hl
      rw [size_list] at hkp
      cases m with
      | zero =>
        obtain ⟨rfl, rfl⟩ : acc = rv ∧ k = rk := by have := HN.out; simpa [Sv.ndF] using this
        have hk9 : k = i + 9 := HK.out
        have e1 : ((k : Int) == (i : Int)) = false := by simp; omega
        have e2 : decide ((k : Int) < (i : Int) + 9) = false := by simp; omega
        clear hk9
        go_wp2_with (first | (go_at_call 124; refine (peek_w b s k v _ hk hs hbk).mono ?_; rintro e w1 ⟨rfl, n2, rfl⟩) | (go_at_call 198; refine (isDigit_w _ _).mono ?_; rintro e w3 ⟨rfl, rfl⟩))
        have k3 := gr_set3 (wr.drewN n2) w.heap.size (.int .i64 2) (.int .u8 0) (.int .i64 acc)
        obtain ⟨q0, q1, q2⟩ := ((hN.drewN n2).set3 (.int .i64 2) (.int .u8 0) (.int .i64 acc)).c
        refine bodyPost_ret (v := .tuple #[.agg #[.int .i64 2, .int .u8 0, .int .i64 acc], .nilIface]) (by simp [results, Tryz.results210, go_sem, q0, q1, q2]) rfl ⟨rfl, (hbk.drewN n2).kept k3 (by simp; omega), gr_own (gr_trans hg (gr_drewN _ _ _)) k3 (Nat.le_refl _)⟩
      | succ m =>
        have hk9 : k < i + 9 := by have := HK.out; omega
        have e2 : decide ((k : Int) < (i : Int) + 9) = true := by simp; omega
        obtain ⟨hr1, hr2⟩ := u8_sub _ hl
        go_wp2_with (first | (go_at_call 124; refine (peek_w b s k v _ hk hs (by first | exact hbk | exact hbk.drewN _)).mono ?_; rintro e w1 ⟨rfl, n2, rfl⟩) | (go_at_call 198; refine (isDigit_w _ _).mono ?_; rintro e w3 ⟨rfl, rfl⟩))
        go_roundw
        case rel => exact ⟨k + 1, m, acc * 10 + ((Sv.pk s.data.toList k).toNat - 48), by have := HK.out; omega, by omega, by omega, Sv.nd_bd _ _ _ HC.out (by have := Sv.dig_rng _ hl; omega), int_eq (by omega), (hbk.drewN _).set1 (k + 1), (hN.drewN _).kept (gr_set _ b 1 _) (by simp; omega), gr_trans hg (gr_trans (gr_drewN wr _ _) (gr_set _ b 1 _)), by have := HN.out; rw [Sv.ndF_step, hl] at this; exact this⟩
        case measure =>
          have h2 : atOf b ((wr.setCell ⟨b, 1, none⟩ (.int .i64 ((k + 1 : Nat) : Int)))) = k + 1 := (PAt.set1 hbk (k + 1)).at
          show s.size - atOf b ((wr.setCell ⟨b, 1, none⟩ (.int .i64 ((k + 1 : Nat) : Int)))) < s.size - atOf b wr
          rw [h2, HA.out]; omega

set_option maxHeartbeats 1000000 in
theorem number_yes1 (b : Nat) (s : ByteArray) (i : Nat) (v : Value) (w : World) (hi : i ≤ s.size) (hs : s.size ≤ 400) (hm : (Sv.pk s.data.toList i == 45) = true) (rv rk : Nat) (h : Sv.ndF 9 s.data.toList 0 (i + 1) = (rv, rk)) (hrk : rk ≠ i + 1) (hb : PAt b s i v w) :
    Calls Tryz.prog 210 #[.pointer (some ⟨b, 0, none⟩)] w fun e w' => e = .returned (.tuple #[.agg #[.int .i64 2, .int .u8 0, .int .i64 (-(rv : Int))], .nilIface]) ∧ PAt b s rk v w' ∧ w.grownBy w' (some b) := by
  have hi1 := Sv.byte_pos _ _ 45 (by decide) hm
  rw [size_list] at hi1
  have em := (u8_45 (Sv.pk s.data.toList i)).trans hm
  have HR : Hid (Sv.ndF 9 s.data.toList 0 (i + 1) = (rv, rk)) := h
  clear h hm
  have hp0 := fun o => hb.kept (World.grownBy_alloc w o none) (by simp)
  have c1 := fun o => (hp0 o).c1
  have f1 := fun o => (hp0 o).fz 1
  go_enter Tryz.func210, Tryz.ntmps210
  go_wp2_with (go_at_call 124; refine (peek_w b s i v _ hi hs (hp0 _)).mono ?_; rintro e w1 ⟨rfl, n, rfl⟩)
  go_loopw [6] (fun x w' => ∃ k n acc : Nat, k + n = i + 1 + 9 ∧ k ≤ s.size ∧ i + 1 ≤ k ∧ (acc + 1) * 10 ^ n ≤ 1000000000 ∧ x = .int .i64 acc ∧ PAt b s k v w' ∧ TAt w.heap.size (.int .i64 0) (.int .u8 0) (.int .i64 0) w' ∧ w.grownBy w' (some b) ∧ Sv.ndF n s.data.toList acc k = (rv, rk)) (fun _ w' => s.size - atOf b w')
  case atStart =>
    have hN0 : TAt w.heap.size (.int .i64 0) (.int .u8 0) (.int .i64 0) (w.alloc (.cells #[.int .i64 0, .int .u8 0, .int .i64 0] 258)) := heap_alloc_new _ _
    exact ⟨i + 1, 9, 0, rfl, by omega, Nat.le_refl _, by decide, rfl, ((hp0 _).drewN n).set1 (i + 1), (hN0.drewN n).kept (gr_set _ b 1 _) (by simp; have := hb.lt; omega), gr_trans (gr_trans (World.grownBy_alloc w _ (some b)) (gr_drewN _ n _)) (gr_set _ b 1 _), HR.out⟩
  case round =>
    obtain ⟨k, m, acc, hkm, hk, hik, hacc, rfl, hbk, hN, hg, hnm⟩ := hrel
    have HN : Hid (Sv.ndF m s.data.toList acc k = (rv, rk)) := hnm
    have HK : Hid (k + m = i + 1 + 9) := hkm
    have HC : Hid ((acc + 1) * 10 ^ m ≤ 1000000000) := hacc
    have HA : Hid (atOf b wr = k) := hbk.at
    have hacc0 := Sv.nd_bd0 acc m hacc
    clear hnm hkm c1 f1 hacc
    have c1 := hbk.c1
    have f1 := hbk.fz 1
    have hne : w.heap.size ≠ b := by have := hb.lt; omega
    obtain ⟨d0, d1, d2⟩ := hN.c
    have z0 := hN.fz 0
    have z1 := hN.fz 1
    have z2 := hN.fz 2
    have hacc1 : (0 : Int) ≤ (acc : Int) := by omega
    have hacc2 : (acc : Int) < 1000000000 := by omega
    cases hl : Sv.digB (Sv.pk s.data.toList k)
    · obtain ⟨rfl, rfl⟩ : acc = rv ∧ k = rk := by
        have := HN.out
        cases m with
        | zero => simpa [Sv.ndF] using this
        | succ m => rw [Sv.ndF_step, hl] at this; simpa using this
      have e1 : ((k : Int) == (i : Int) + 1) = false := by simp; omega
      go_wp2_with (first | (go_at_call 124; refine (peek_w b s k v _ hk hs hbk).mono ?_; rintro e w1 ⟨rfl, n2, rfl⟩) | (go_at_call 198; refine (isDigit_w _ _).mono ?_; rintro e w3 ⟨rfl, rfl⟩))
      have k3 := gr_set3 (wr.drewN n2) w.heap.size (.int .i64 2) (.int .u8 0) (.int .i64 (-(acc : Int)))
      obtain ⟨q0, q1, q2⟩ := ((hN.drewN n2).set3 (.int .i64 2) (.int .u8 0) (.int .i64 (-(acc : Int)))).c
      refine bodyPost_ret (v := .tuple #[.agg #[.int .i64 2, .int .u8 0, .int .i64 (-(acc : Int))], .nilIface]) (by simp [results, Tryz.results210, go_sem, q0, q1, q2]) rfl ⟨rfl, (hbk.drewN n2).kept k3 (by simp; omega), gr_own (gr_trans hg (gr_drewN _ _ _)) k3 (Nat.le_refl _)⟩
    · have hkp := Sv.dig_pos _ _ hl
      rw [size_list] at hkp
      cases m with
      | zero =>
        obtain ⟨rfl, rfl⟩ : acc = rv ∧ k = rk := by have := HN.out; simpa [Sv.ndF] using this
        have hk9 : k = i + 1 + 9 := HK.out
        have e1 : ((k : Int) == (i : Int) + 1) = false := by simp; omega
        have e2 : decide ((k : Int) < (i : Int) + 1 + 9) = false := by simp; omega
        clear hk9
        go_wp2_with (first | (go_at_call 124; refine (peek_w b s k v _ hk hs hbk).mono ?_; rintro e w1 ⟨rfl, n2, rfl⟩) | (go_at_call 198; refine (isDigit_w _ _).mono ?_; rintro e w3 ⟨rfl, rfl⟩))
        have k3 := gr_set3 (wr.drewN n2) w.heap.size (.int .i64 2) (.int .u8 0) (.int .i64 (-(acc : Int)))
        obtain ⟨q0, q1, q2⟩ := ((hN.drewN n2).set3 (.int .i64 2) (.int .u8 0) (.int .i64 (-(acc : Int)))).c
        refine bodyPost_ret (v := .tuple #[.agg #[.int .i64 2, .int .u8 0, .int .i64 (-(acc : Int))], .nilIface]) (by simp [results, Tryz.results210, go_sem, q0, q1, q2]) rfl ⟨rfl, (hbk.drewN n2).kept k3 (by simp; omega), gr_own (gr_trans hg (gr_drewN _ _ _)) k3 (Nat.le_refl _)⟩
      | succ m =>
        have hk9 : k < i + 1 + 9 := by have := HK.out; omega
        have e2 : decide ((k : Int) < (i : Int) + 1 + 9) = true := by simp; omega
        obtain ⟨hr1, hr2⟩ := u8_sub _ hl
        go_wp2_with (first | (go_at_call 124; refine (peek_w b s k v _ hk hs (by first | exact hbk | exact hbk.drewN _)).mono ?_; rintro e w1 ⟨rfl, n2, rfl⟩) | (go_at_call 198; refine (isDigit_w _ _).mono ?_; rintro e w3 ⟨rfl, rfl⟩))
        go_roundw
        case rel => exact ⟨k + 1, m, acc * 10 + ((Sv.pk s.data.toList k).toNat - 48), by have := HK.out; omega, by omega, by omega, Sv.nd_bd _ _ _ HC.out (by have := Sv.dig_rng _ hl; omega), int_eq (by omega), (hbk.drewN _).set1 (k + 1), (hN.drewN _).kept (gr_set _ b 1 _) (by simp; omega), gr_trans hg (gr_trans (gr_drewN wr _ _) (gr_set _ b 1 _)), by have := HN.out; rw [Sv.ndF_step, hl] at this; exact this⟩
        case measure =>
          have h2 : atOf b ((wr.setCell ⟨b, 1, none⟩ (.int .i64 ((k + 1 : Nat) : Int)))) = k + 1 := (PAt.set1 hbk (k + 1)).at
          show s.size - atOf b ((wr.setCell ⟨b, 1, none⟩ (.int .i64 ((k + 1 : Nat) : Int)))) < s.size - atOf b wr
          rw [h2, HA.out]; omega

set_option maxHeartbeats 400000 in
theorem number_no1 (b : Nat) (s : ByteArray) (i : Nat) (v : Value) (w : World) (tT : TypeId) (aT : Addr) (eL : Value) (hi : i ≤ s.size) (hs : s.size ≤ 400) (hm : (Sv.pk s.data.toList i == 45) = true) (h : (Sv.ndF 9 s.data.toList 0 (i + 1)).2 = i + 1) (hb : PAt b s i v w) (hG : GOk b (.iface tT (.pointer (some aT))) eL w) :
    Calls Tryz.prog 210 #[.pointer (some ⟨b, 0, none⟩)] w fun e w' => ∃ y, e = .returned (.tuple #[.agg #[.int .i64 0, .int .u8 0, .int .i64 0], y]) ∧ Bad b (i + 1) (.iface tT (.pointer (some aT))) w y w' := by
  have hl := Sv.nd_first _ _ h
  have hi1 := Sv.byte_pos _ _ 45 (by decide) hm
  rw [size_list] at hi1
  have em := (u8_45 (Sv.pk s.data.toList i)).trans hm
  clear h hm
  have hp0 := fun o => hb.kept (World.grownBy_alloc w o none) (by simp)
  have c1 := fun o => (hp0 o).c1
  have f1 := fun o => (hp0 o).fz 1
  have e1 : ((i : Int) + 1 == (i : Int) + 1) = true := by simp
  go_enter Tryz.func210, Tryz.ntmps210
  go_wp2_with (go_at_call 124; refine (peek_w b s i v _ hi hs (hp0 _)).mono ?_; rintro e w1 ⟨rfl, n, rfl⟩)
  go_loopw [6] (fun x w' => x = .int .i64 0 ∧ PAt b s (i + 1) v w' ∧ TAt w.heap.size (.int .i64 0) (.int .u8 0) (.int .i64 0) w' ∧ w.grownBy w' (some b)) (fun _ _ => 0)
  case atStart =>
    have hN0 : TAt w.heap.size (.int .i64 0) (.int .u8 0) (.int .i64 0) (w.alloc (.cells #[.int .i64 0, .int .u8 0, .int .i64 0] 258)) := heap_alloc_new _ _
    exact ⟨rfl, ((hp0 _).drewN n).set1 (i + 1), (hN0.drewN n).kept (gr_set _ b 1 _) (by simp; have := hb.lt; omega), gr_trans (gr_trans (World.grownBy_alloc w _ (some b)) (gr_drewN _ n _)) (gr_set _ b 1 _)⟩
  case round =>
    obtain ⟨rfl, hbk, hN, hg⟩ := hrel
    clear c1 f1
    have c1 := hbk.c1
    have cT := (hG.kept hg).cT
    go_wp2_with (first | (go_at_call 124; refine (peek_w b s (i + 1) v _ hi1 hs (by first | exact hbk | exact hbk.drewN _)).mono ?_; rintro e w1 ⟨rfl, n2, rfl⟩) | (go_at_call 198; refine (isDigit_w _ _).mono ?_; rintro e w3 ⟨rfl, rfl⟩))
    refine (wrong_w b s _ v _ tT aT (hbk.drewN _) cT).mono ?_
    rintro e w4 ⟨f, rfl, hf, hF, hg2⟩
    have hN4 := hN.kept (gr_un hg2) (by simp)
    obtain ⟨d0, d1, d2⟩ := hN4.c
    have z0 := hN4.fz 0
    have z1 := hN4.fz 1
    have z2 := hN4.fz 2
    go_wp2
    have k3 := gr_set3 w4 w.heap.size (.int .i64 0) (.int .u8 0) (.int .i64 0)
    obtain ⟨q0, q1, q2⟩ := (hN4.set3 (.int .i64 0) (.int .u8 0) (.int .i64 0)).c
    have hg' := gr_trans hg (gr_any (gr_un hg2) (some b))
    have hf1 : w.heap.size < f := Nat.lt_of_lt_of_le hN.lt hf
    refine bodyPost_ret (v := .tuple #[.agg #[.int .i64 0, .int .u8 0, .int .i64 0], .iface 112 (.pointer (some ⟨f, 0, none⟩))]) (by simp [results, Tryz.results210, go_sem, q0, q1, q2]) rfl ⟨_, rfl, f, rfl, by omega, hF.kept k3 (by simp; omega), gr_own hg' k3 (Nat.le_refl _)⟩

/-- A term's cells. -/
def tcells (t : Sv.Term) : List Value := [.int .i64 t.sort, .int .u8 t.letter.toNat, .int .i64 t.value]

/-- What the reader of one term comes to. -/
def TermPost (b : Nat) (s : ByteArray) (v : Value) (eT : Value) (w : World) (r : Nat ⊕ (Sv.Term × Nat)) (e : Ending) (w' : World) : Prop :=
  match r with
  | .inl k => ∃ y, e = .returned (.tuple #[.agg #[.int .i64 0, .int .u8 0, .int .i64 0], y]) ∧ Bad b k eT w y w'
  | .inr (t, j) => e = .returned (.tuple #[.agg (tcells t).toArray, .nilIface]) ∧ PAt b s j v w' ∧ w.grownBy w' (some b)

theorem number_w (b : Nat) (s : ByteArray) (i : Nat) (v : Value) (w : World) (tT : TypeId) (aT : Addr) (eL : Value) (hi : i ≤ s.size) (hs : s.size ≤ 400) (hb : PAt b s i v w) (hG : GOk b (.iface tT (.pointer (some aT))) eL w) :
    Calls Tryz.prog 210 #[.pointer (some ⟨b, 0, none⟩)] w fun e w' => TermPost b s v (.iface tT (.pointer (some aT))) w (Sv.number s.data.toList i) e w' := by
  unfold Sv.number
  cases hm : Sv.pk s.data.toList i == 45
  · simp only [Bool.false_eq_true, if_false]
    by_cases h : (Sv.ndF 9 s.data.toList 0 i).2 = i
    · rw [if_pos h]
      exact number_no0 b s i v w tT aT eL hi hs hm h hb hG
    · rw [if_neg h]
      exact number_yes0 b s i v w hi hs hm _ _ rfl h hb
  · simp only [if_true]
    by_cases h : (Sv.ndF 9 s.data.toList 0 (i + 1)).2 = i + 1
    · rw [if_pos h]
      exact number_no1 b s i v w tT aT eL hi hs hm h hb hG
    · rw [if_neg h]
      exact number_yes1 b s i v w hi hs hm _ _ rfl h hb

end Go.Proofs.YtolhbeekfjnfmaaGreatDoor

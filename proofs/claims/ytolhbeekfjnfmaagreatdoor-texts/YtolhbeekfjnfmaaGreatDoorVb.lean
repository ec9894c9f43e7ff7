/- The document's reader: names and numbers. -/
import Derived.Test.YtolhbeekfjnfmaaGreatDoorVa
import Derived.Laws.IdiomStrings
namespace Go.Proofs.YtolhbeekfjnfmaaGreatDoor
open Go.RowKit

theorem one_byte (w : World) (c : UInt8) : Sem.run Tryz.prog (convert 123 9 (.slice (some ⟨w.heap.size, 0, none⟩) 1 1)) (w.alloc (.cells #[.int .u8 c.toNat] 5)) = .ok (.string ⟨#[c]⟩) (w.alloc (.cells #[.int .u8 c.toNat] 5)) := by
  have h := run_convert_bytes_back (P := Tryz.prog) (w.alloc (.cells #[.int .u8 c.toNat] 5)) 123 9 5 ⟨w.heap.size, 0, none⟩ 1 [c] Tryz.underlying123 Tryz.underlying5 Tryz.underlying9 (by
    intro j hj
    obtain rfl : j = 0 := by simp at hj; omega
    simp [Addr.add])
  exact h

theorem one_byteD (w : World) (n : Nat) (c : UInt8) : Sem.run Tryz.prog (convert 123 9 (.slice (some ⟨w.heap.size, 0, none⟩) 1 1)) ((w.drewN n).alloc (.cells #[.int .u8 c.toNat] 5)) = .ok (.string ⟨#[c]⟩) ((w.drewN n).alloc (.cells #[.int .u8 c.toNat] 5)) := one_byte (w.drewN n) c

theorem Sv.cut_snoc (l : List UInt8) (i k : Nat) (hik : i ≤ k) (hk : k < l.length) : Sv.cut l i (k + 1) = Sv.cut l i k ++ [Sv.pk l k] := by
  unfold Sv.cut
  rw [List.take_add_one, List.getElem?_eq_getElem hk, List.drop_append_of_le_length (by simp; omega), Sv.pk_at l k hk]
  rfl
theorem ba_app (a b : List UInt8) : (⟨a.toArray⟩ : ByteArray) ++ ⟨b.toArray⟩ = ⟨(a ++ b).toArray⟩ := by
  apply ByteArray.ext
  simp

theorem ne_empty (t : ByteArray) (h : 0 < t.size) : t.toList.isEmpty = false := by
  rw [Lib.toList_data, List.isEmpty_eq_false_iff]
  intro e
  have := congrArg List.length e
  rw [size_list, List.length_nil] at this
  omega

set_option maxHeartbeats 400000 in
theorem vname_no (b : Nat) (s : ByteArray) (i : Nat) (w : World) (hi : i ≤ s.size) (hs : s.size ≤ 400) (h : Sv.nmF 8 s.data.toList i = i) (hb : VAt b s i false w) :
    Calls Tryz.prog 149 #[.pointer (some ⟨b, 0, none⟩)] w fun e w' => e = .returned (.string ⟨#[]⟩) ∧ VAt b s i true w' ∧ w.grownBy w' (some b) := by
  have hl := Sv.nm_first _ _ h
  clear h
  have f2 := hb.fz 2
  have c2 := hb.c2
  go_enter Tryz.func149, Tryz.ntmps149
  go_wp2
  go_loopw [3] (fun x w' => x = .string ⟨#[]⟩ ∧ w' = w) (fun _ _ => 0)
  case atStart => exact ⟨rfl, rfl⟩
  case round =>
    obtain ⟨rfl, rfl⟩ := hrel
    go_wp2_with (first | (go_at_call 148; refine (vhere_w b s i _ hi hs hb).mono ?_; rintro e w1 ⟨rfl, n, rfl⟩) | (go_at_call 176; refine (vletter_w _ _).mono ?_; rintro e w3 ⟨rfl, rfl⟩))
    go_ret
    exact ⟨rfl, VAt.set2 (hb.drewN n) _, gr_trans (gr_drewN wr n _) (gr_set _ b 2 _)⟩

set_option maxRecDepth 100000 in
set_option maxHeartbeats 400000 in
theorem vname_yes (b : Nat) (s : ByteArray) (i : Nat) (w : World) (hi : i ≤ s.size) (hs : s.size ≤ 400) (h : Sv.nmF 8 s.data.toList i ≠ i) (hb : VAt b s i false w) :
    Calls Tryz.prog 149 #[.pointer (some ⟨b, 0, none⟩)] w fun e w' => e = .returned (.string ⟨(Sv.cut s.data.toList i (Sv.nmF 8 s.data.toList i)).toArray⟩) ∧ VAt b s (Sv.nmF 8 s.data.toList i) false w' ∧ w.grownBy w' (some b) := by
  have hnl := Sv.nmF_le 8 s.data.toList i (by simpa using hi)
  rw [size_list] at hnl
  obtain ⟨hn1, hn2, hn3⟩ := hnl
  obtain ⟨j, hj⟩ : ∃ j, Sv.nmF 8 s.data.toList i = j := ⟨_, rfl⟩
  rw [hj] at h hn1 hn2 hn3 ⊢
  have HJ : Hid (Sv.nmF 8 s.data.toList i = j) := hj
  clear hj
  go_enter Tryz.func149, Tryz.ntmps149
  go_wp2
  go_loopw [3] (fun x w' => ∃ (k m : Nat) (t : ByteArray), k + m = i + 8 ∧ k ≤ s.size ∧ i ≤ k ∧ x = .string t ∧ t = ⟨(Sv.cut s.data.toList i k).toArray⟩ ∧ t.size + i = k ∧ VAt b s k false w' ∧ w.grownBy w' (some b) ∧ Sv.nmF m s.data.toList k = j) (fun _ w' => s.size - atOf b w')
  case atStart => exact ⟨i, 8, ⟨#[]⟩, rfl, hi, Nat.le_refl _, rfl, by simp [Sv.cut], by simp [ByteArray.size], hb, World.grownBy.refl _ _, HJ.out⟩
  case round =>
    obtain ⟨k, m, t, hkm, hk, hik, rfl, ht, hts, hbk, hg, hnm⟩ := hrel
    have HT : Hid (t = ⟨(Sv.cut s.data.toList i k).toArray⟩) := ht
    have HN : Hid (Sv.nmF m s.data.toList k = j) := hnm
    have HK : Hid (k + m = i + 8) := hkm
    have HA : Hid (atOf b wr = k) := hbk.at
    clear hnm hkm ht
    have c1 := hbk.c1
    have f1 := hbk.fz 1
    cases hl : Sv.letB (Sv.pk s.data.toList k)
    · obtain rfl : k = j := by
        have := HN.out
        cases m with
        | zero => exact this
        | succ m => rw [Sv.nmF_step, hl] at this; exact this
      have e1 : t.toList.isEmpty = false := ne_empty t (by omega)
      go_wp2_with (first | (go_at_call 148; refine (vhere_w b s k _ hk hs hbk).mono ?_; rintro e w1 ⟨rfl, n, rfl⟩) | (go_at_call 176; refine (vletter_w _ _).mono ?_; rintro e w3 ⟨rfl, rfl⟩))
      go_ret
      exact ⟨by rw [← HT.out]; rfl, hbk, gr_trans hg (gr_drewN _ _ _)⟩
    · have hkp := Sv.let_pos _ _ hl
      rw [size_list] at hkp
      cases m with
      | zero =>
        obtain rfl : k = j := HN.out
        have hk8 : t.size = 8 := by have := HK.out; omega
        have e1 : t.toList.isEmpty = false := ne_empty t (by omega)
        have e2 : ((t.size : Int) == 8) = true := by simp; omega
        go_wp2_with (first | (go_at_call 148; refine (vhere_w b s k _ hk hs hbk).mono ?_; rintro e w1 ⟨rfl, n, rfl⟩) | (go_at_call 176; refine (vletter_w _ _).mono ?_; rintro e w3 ⟨rfl, rfl⟩))
        go_ret
        exact ⟨by rw [← HT.out]; rfl, hbk, gr_trans hg (gr_drewN _ _ _)⟩
      | succ m =>
        have hk8 : t.size < 8 := by have := HK.out; omega
        have e2 : ((t.size : Int) == 8) = false := by simp; omega
        have hcv := fun n => one_byteD wr n (Sv.pk s.data.toList k)
        have hlt := hbk.lt
        have c1' := fun n o => ((hbk.drewN n).kept (World.grownBy_alloc (wr.drewN n) o none) (by simp)).c1
        have f1' := fun n o => ((hbk.drewN n).kept (World.grownBy_alloc (wr.drewN n) o none) (by simp)).fz 1
        go_wp2_with (first | (go_at_call 148; refine (vhere_w b s k _ hk hs hbk).mono ?_; rintro e w1 ⟨rfl, n, rfl⟩) | (go_at_call 176; refine (vletter_w _ _).mono ?_; rintro e w3 ⟨rfl, rfl⟩))
        refine ⟨⟨k + 1, m, _, by have := HK.out; omega, by omega, by omega, rfl, ?_, ?_, ((hbk.drewN n).kept (World.grownBy_alloc (wr.drewN n) _ none) (by simp)).set1 (k + 1), gr_trans hg (gr_trans (gr_trans (gr_drewN wr n _) (World.grownBy_alloc _ _ _)) (gr_set _ b 1 _)), by have := HN.out; rw [Sv.nmF_step, hl] at this; exact this⟩, ?_⟩
        · rw [HT.out, Sv.cut_snoc _ _ _ hik (by simpa using hkp)]
          exact ba_app _ _
        · rw [ByteArray.size_append]
          show t.size + 1 + i = k + 1
          omega
        · have h2 := (((hbk.drewN n).kept (World.grownBy_alloc (wr.drewN n) (Obj.cells #[Value.int IntKind.u8 ↑(Sv.pk s.data.toList k).toNat] 5) none) (by simp)).set1 (k + 1)).at
          rw [HA.out]
          have h3 : ((k + 1 : Nat) : Int) = (k : Int) + 1 := by omega
          rw [h3] at h2
          rw [h2]; omega

/-- What the document's reader of a number comes to. -/
def VNumPost (b : Nat) (s : ByteArray) (w : World) (r : Nat ⊕ (Sv.Term × Nat)) (e : Ending) (w' : World) : Prop :=
  match r with
  | .inl k => ∃ z, e = .returned (.int .i64 z) ∧ VAt b s k true w' ∧ w.grownBy w' (some b)
  | .inr (t, j) => e = .returned (.int .i64 t.value) ∧ VAt b s j false w' ∧ w.grownBy w' (some b)

set_option maxRecDepth 100000 in
set_option maxHeartbeats 1000000 in
theorem vnumber_no1 (b : Nat) (s : ByteArray) (i : Nat) (w : World) (hi : i ≤ s.size) (hs : s.size ≤ 400) (hm : (Sv.pk s.data.toList i == 45) = true) (h : (Sv.ndF 9 s.data.toList 0 (i + 1)).2 = i + 1) (hb : VAt b s i false w) :
    Calls Tryz.prog 178 #[.pointer (some ⟨b, 0, none⟩)] w fun e w' => ∃ z, e = .returned (.int .i64 z) ∧ VAt b s (i + 1) true w' ∧ w.grownBy w' (some b) := by
  have hl := Sv.nd_first _ _ h
  clear h
  have hi1 := Sv.byte_pos _ _ 45 (by decide) hm
  rw [size_list] at hi1
  have em := (u8_45 (Sv.pk s.data.toList i)).trans hm
  clear hm
  have c1 := hb.c1
  have f1 := hb.fz 1
  go_enter Tryz.func178, Tryz.ntmps178
  go_wp2_with (go_at_call 148; refine (vhere_w b s i _ hi hs hb).mono ?_; rintro e w1 ⟨rfl, n, rfl⟩)
  go_loopw [4, 5] (fun x y w' => x = .int .i64 0 ∧ y = .int .i64 0 ∧ VAt b s (i + 1) false w' ∧ w.grownBy w' (some b)) (fun _ _ _ => 0)
  case atStart => exact ⟨rfl, rfl, (hb.drewN n).set1 (i + 1), gr_trans (gr_drewN w n _) (gr_set _ b 1 _)⟩
  case round =>
    obtain ⟨rfl, rfl, hbk, hg⟩ := hrel
    clear c1 f1
    have f2 := hbk.fz 2
    have c2 := hbk.c2
    go_wp2_with (first | (go_at_call 148; refine (vhere_w b s (i + 1) _ hi1 hs hbk).mono ?_; rintro e w1 ⟨rfl, n2, rfl⟩) | (go_at_call 177; refine (vdigit_w _ _).mono ?_; rintro e w3 ⟨rfl, rfl⟩))
    go_ret
    exact ⟨_, rfl, (hbk.drewN n2).set2 true, gr_trans hg (gr_trans (gr_drewN wr n2 _) (gr_set _ b 2 _))⟩

set_option maxRecDepth 100000 in
set_option maxHeartbeats 1000000 in
theorem vnumber_yes0 (b : Nat) (s : ByteArray) (i : Nat) (w : World) (hi : i ≤ s.size) (hs : s.size ≤ 400) (hm : (Sv.pk s.data.toList i == 45) = false) (rv rk : Nat) (h : Sv.ndF 9 s.data.toList 0 i = (rv, rk)) (hrk : rk ≠ i) (hb : VAt b s i false w) :
    Calls Tryz.prog 178 #[.pointer (some ⟨b, 0, none⟩)] w fun e w' => e = .returned (.int .i64 rv) ∧ VAt b s rk false w' ∧ w.grownBy w' (some b) := by
  have em := (u8_45 (Sv.pk s.data.toList i)).trans hm
  have HR : Hid (Sv.ndF 9 s.data.toList 0 i = (rv, rk)) := h
  clear h hm
  go_enter Tryz.func178, Tryz.ntmps178
  go_wp2_with (go_at_call 148; refine (vhere_w b s i _ hi hs hb).mono ?_; rintro e w1 ⟨rfl, n, rfl⟩)
  go_loopw [4, 5] (fun x y w' => ∃ q n acc : Nat, q + n = 9 ∧ i + q ≤ s.size ∧ (acc + 1) * 10 ^ n ≤ 1000000000 ∧ x = .int .i64 acc ∧ y = .int .i64 q ∧ VAt b s (i + q) false w' ∧ w.grownBy w' (some b) ∧ Sv.ndF n s.data.toList acc (i + q) = (rv, rk)) (fun _ _ w' => s.size - atOf b w')
  case atStart => exact ⟨0, 9, 0, rfl, hi, by decide, rfl, rfl, hb.drewN n, gr_drewN _ _ _, HR.out⟩
  case round =>
    obtain ⟨q, m, acc, hkm, hk, hacc, rfl, rfl, hbk, hg, hnm⟩ := hrel
    have HN : Hid (Sv.ndF m s.data.toList acc (i + q) = (rv, rk)) := hnm
    have HK : Hid (q + m = 9) := hkm
    have HC : Hid ((acc + 1) * 10 ^ m ≤ 1000000000) := hacc
    have HA : Hid (atOf b wr = i + q) := hbk.at
    have hacc0 := Sv.nd_bd0 acc m hacc
    have hq9 : q ≤ 9 := by omega
    clear hnm hkm hacc
    have c1 := hbk.c1
    have f1 := hbk.fz 1
    have hacc1 : (0 : Int) ≤ (acc : Int) := by omega
    have hacc2 : (acc : Int) < 1000000000 := by omega
    cases hl : Sv.digB (Sv.pk s.data.toList (i + q))
    · obtain ⟨rfl, rfl⟩ : acc = rv ∧ i + q = rk := by
        have := HN.out
        cases m with
        | zero => simpa [Sv.ndF] using this
        | succ m => rw [Sv.ndF_step, hl] at this; simpa using this
      have e1 : ((q : Int) == 0) = false := by simp; omega
      go_wp2_with (first | (go_at_call 148; refine (vhere_w b s (i + q) _ hk hs hbk).mono ?_; rintro e w1 ⟨rfl, n2, rfl⟩) | (go_at_call 177; refine (vdigit_w _ _).mono ?_; rintro e w3 ⟨rfl, rfl⟩))
      go_ret
      exact ⟨rfl, hbk, gr_trans hg (gr_drewN _ _ _)⟩
    · have hkp := Sv.dig_pos _ _ hl
      rw [size_list] at hkp
      cases m with
      | zero =>
        obtain ⟨rfl, rfl⟩ : acc = rv ∧ i + q = rk := by have := HN.out; simpa [Sv.ndF] using this
        have e1 : ((q : Int) == 0) = false := by simp; omega
        have e2 : ((q : Int) == 9) = true := by have := HK.out; simp; omega
        go_wp2_with (first | (go_at_call 148; refine (vhere_w b s (i + q) _ hk hs hbk).mono ?_; rintro e w1 ⟨rfl, n2, rfl⟩) | (go_at_call 177; refine (vdigit_w _ _).mono ?_; rintro e w3 ⟨rfl, rfl⟩))
        go_ret
        exact ⟨rfl, hbk, gr_trans hg (gr_drewN _ _ _)⟩
      | succ m =>
        have e2 : ((q : Int) == 9) = false := by have := HK.out; simp; omega
        obtain ⟨hr1, hr2⟩ := u8_sub _ hl
        go_wp2_with (first | (go_at_call 148; refine (vhere_w b s (i + q) _ hk hs hbk).mono ?_; rintro e w1 ⟨rfl, n2, rfl⟩) | (go_at_call 177; refine (vdigit_w _ _).mono ?_; rintro e w3 ⟨rfl, rfl⟩))
        have hset : VAt b s (i + (q + 1)) false ((wr.drewN n2).setCell ⟨b, 1, none⟩ (.int .i64 ((i : Int) + (q : Int) + 1))) := by
          have h0 := (hbk.drewN n2).set1 (i + (q + 1))
          rwa [show ((i + (q + 1) : Nat) : Int) = (i : Int) + (q : Int) + 1 from by omega] at h0
        refine ⟨⟨q + 1, m, acc * 10 + ((Sv.pk s.data.toList (i + q)).toNat - 48), by have := HK.out; omega, by omega, Sv.nd_bd _ _ _ HC.out (by have := Sv.dig_rng _ hl; omega), int_eq (by omega), int_eq (by omega), hset, gr_trans hg (gr_trans (gr_drewN wr n2 _) (gr_set _ b 1 _)), by have := HN.out; rw [Sv.ndF_step, hl] at this; exact this⟩, ?_⟩
        rw [hset.at, HA.out]; omega

set_option maxRecDepth 100000 in
set_option maxHeartbeats 1000000 in
theorem vnumber_yes1 (b : Nat) (s : ByteArray) (i : Nat) (w : World) (hi : i ≤ s.size) (hs : s.size ≤ 400) (hm : (Sv.pk s.data.toList i == 45) = true) (rv rk : Nat) (h : Sv.ndF 9 s.data.toList 0 (i + 1) = (rv, rk)) (hrk : rk ≠ i + 1) (hb : VAt b s i false w) :
    Calls Tryz.prog 178 #[.pointer (some ⟨b, 0, none⟩)] w fun e w' => e = .returned (.int .i64 (-(rv : Int))) ∧ VAt b s rk false w' ∧ w.grownBy w' (some b) := by
  have em := (u8_45 (Sv.pk s.data.toList i)).trans hm
  have HR : Hid (Sv.ndF 9 s.data.toList 0 (i + 1) = (rv, rk)) := h
  have hi1 := Sv.byte_pos _ _ 45 (by decide) hm
  rw [size_list] at hi1
  clear h hm
  have c1 := hb.c1
  have f1 := hb.fz 1
  go_enter Tryz.func178, Tryz.ntmps178
  go_wp2_with (go_at_call 148; refine (vhere_w b s i _ hi hs hb).mono ?_; rintro e w1 ⟨rfl, n, rfl⟩)
  go_loopw [4, 5] (fun x y w' => ∃ q n acc : Nat, q + n = 9 ∧ i + 1 + q ≤ s.size ∧ (acc + 1) * 10 ^ n ≤ 1000000000 ∧ x = .int .i64 acc ∧ y = .int .i64 q ∧ VAt b s (i + 1 + q) false w' ∧ w.grownBy w' (some b) ∧ Sv.ndF n s.data.toList acc (i + 1 + q) = (rv, rk)) (fun _ _ w' => s.size - atOf b w')
  case atStart => exact ⟨0, 9, 0, rfl, hi1, by decide, rfl, rfl, (hb.drewN n).set1 (i + 1), gr_trans (gr_drewN w n _) (gr_set _ b 1 _), HR.out⟩
  case round =>
    obtain ⟨q, m, acc, hkm, hk, hacc, rfl, rfl, hbk, hg, hnm⟩ := hrel
    have HN : Hid (Sv.ndF m s.data.toList acc (i + 1 + q) = (rv, rk)) := hnm
    have HK : Hid (q + m = 9) := hkm
    have HC : Hid ((acc + 1) * 10 ^ m ≤ 1000000000) := hacc
    have HA : Hid (atOf b wr = i + 1 + q) := hbk.at
    have hacc0 := Sv.nd_bd0 acc m hacc
    have hq9 : q ≤ 9 := by omega
    clear hnm hkm hacc c1 f1
    have c1 := hbk.c1
    have f1 := hbk.fz 1
    have hacc1 : (0 : Int) ≤ (acc : Int) := by omega
    have hacc2 : (acc : Int) < 1000000000 := by omega
    cases hl : Sv.digB (Sv.pk s.data.toList (i + 1 + q))
    · obtain ⟨rfl, rfl⟩ : acc = rv ∧ i + 1 + q = rk := by
        have := HN.out
        cases m with
        | zero => simpa [Sv.ndF] using this
        | succ m => rw [Sv.ndF_step, hl] at this; simpa using this
      have e1 : ((q : Int) == 0) = false := by simp; omega
      go_wp2_with (first | (go_at_call 148; refine (vhere_w b s (i + 1 + q) _ hk hs hbk).mono ?_; rintro e w1 ⟨rfl, n2, rfl⟩) | (go_at_call 177; refine (vdigit_w _ _).mono ?_; rintro e w3 ⟨rfl, rfl⟩))
      go_ret
      exact ⟨rfl, hbk, gr_trans hg (gr_drewN _ _ _)⟩
    · have hkp := Sv.dig_pos _ _ hl
      rw [size_list] at hkp
      cases m with
      | zero =>
        obtain ⟨rfl, rfl⟩ : acc = rv ∧ i + 1 + q = rk := by have := HN.out; simpa [Sv.ndF] using this
        have e1 : ((q : Int) == 0) = false := by simp; omega
        have e2 : ((q : Int) == 9) = true := by have := HK.out; simp; omega
        go_wp2_with (first | (go_at_call 148; refine (vhere_w b s (i + 1 + q) _ hk hs hbk).mono ?_; rintro e w1 ⟨rfl, n2, rfl⟩) | (go_at_call 177; refine (vdigit_w _ _).mono ?_; rintro e w3 ⟨rfl, rfl⟩))
        go_ret
        exact ⟨rfl, hbk, gr_trans hg (gr_drewN _ _ _)⟩
      | succ m =>
        have e2 : ((q : Int) == 9) = false := by have := HK.out; simp; omega
        obtain ⟨hr1, hr2⟩ := u8_sub _ hl
        go_wp2_with (first | (go_at_call 148; refine (vhere_w b s (i + 1 + q) _ hk hs hbk).mono ?_; rintro e w1 ⟨rfl, n2, rfl⟩) | (go_at_call 177; refine (vdigit_w _ _).mono ?_; rintro e w3 ⟨rfl, rfl⟩))
        have hset : VAt b s (i + 1 + (q + 1)) false ((wr.drewN n2).setCell ⟨b, 1, none⟩ (.int .i64 ((i : Int) + 1 + (q : Int) + 1))) := by
          have h0 := (hbk.drewN n2).set1 (i + 1 + (q + 1))
          rwa [show ((i + 1 + (q + 1) : Nat) : Int) = (i : Int) + 1 + (q : Int) + 1 from by omega] at h0
        refine ⟨⟨q + 1, m, acc * 10 + ((Sv.pk s.data.toList (i + 1 + q)).toNat - 48), by have := HK.out; omega, by omega, Sv.nd_bd _ _ _ HC.out (by have := Sv.dig_rng _ hl; omega), int_eq (by omega), int_eq (by omega), hset, gr_trans hg (gr_trans (gr_drewN wr n2 _) (gr_set _ b 1 _)), by have := HN.out; rw [Sv.ndF_step, hl] at this; exact this⟩, ?_⟩
        rw [hset.at, HA.out]; omega

theorem vnumber_w (b : Nat) (s : ByteArray) (i : Nat) (w : World) (hi : i ≤ s.size) (hs : s.size ≤ 400) (hc : (Sv.pk s.data.toList i == 45) = false → Sv.digB (Sv.pk s.data.toList i) = true) (hb : VAt b s i false w) :
    Calls Tryz.prog 178 #[.pointer (some ⟨b, 0, none⟩)] w fun e w' => VNumPost b s w (Sv.number s.data.toList i) e w' := by
  unfold Sv.number
  cases hm : Sv.pk s.data.toList i == 45
  · simp only [Bool.false_eq_true, if_false]
    have h : (Sv.ndF 9 s.data.toList 0 i).2 ≠ i := fun h => by
      have := Sv.nd_first _ _ h
      rw [hc hm] at this
      cases this
    rw [if_neg h]
    exact vnumber_yes0 b s i w hi hs hm _ _ rfl h hb
  · simp only [if_true]
    by_cases h : (Sv.ndF 9 s.data.toList 0 (i + 1)).2 = i + 1
    · rw [if_pos h]
      exact vnumber_no1 b s i w hi hs hm h hb
    · rw [if_neg h]
      exact vnumber_yes1 b s i w hi hs hm _ _ rfl h hb

end Go.Proofs.YtolhbeekfjnfmaaGreatDoor

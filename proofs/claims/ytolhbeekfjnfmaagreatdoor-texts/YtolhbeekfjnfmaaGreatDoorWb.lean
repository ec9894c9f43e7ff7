/- The reader's kinds, names, numbers and terms. -/
import Derived.Test.YtolhbeekfjnfmaaGreatDoorWa
import Derived.Test.YtolhbeekfjnfmaaGreatDoorShelf
namespace Go.Proofs.YtolhbeekfjnfmaaGreatDoor
open Go.RowKit

set_option maxHeartbeats 400000 in
theorem behind_w (b : Nat) (s : ByteArray) (i : Nat) (v : Value) (w : World) (hi : i ≤ s.size) (_hs : s.size ≤ 400) (hb : PAt b s i v w) :
    Calls Tryz.prog 209 #[.pointer (some ⟨b, 0, none⟩)] w fun e w' => e = .returned (.bool (Sv.behind s.data.toList i)) ∧ ∃ n, w' = w.drewN n := by
  have c0 := hb.c0
  have c1 := hb.c1
  by_cases h : 0 < i
  · have hd : decide ((0 : Int) < (i : Int)) = true := by simp; omega
    have hlt : i - 1 < s.size := by omega
    obtain ⟨j, rfl⟩ : ∃ j, i = j + 1 := ⟨i - 1, by omega⟩
    have hj : j < s.size := by omega
    have e : Sv.behind s.data.toList (j + 1) = Sv.digB s[j] := by simp [Sv.behind, pk_get s j hj]
    rw [e]
    clear e
    go_enter Tryz.func209, Tryz.ntmps209
    go_wp2
    go_quiet ((go_at_call 198; exact Calls.quiet_of_same (isDigit_w _ _)))
    go_wp2
    go_ret
    exact ⟨rfl, _, rfl⟩
  · have hd : decide ((0 : Int) < (i : Int)) = false := by simp; omega
    have e : Sv.behind s.data.toList i = false := by simp [Sv.behind, h]
    rw [e]
    clear e
    go_enter Tryz.func209, Tryz.ntmps209
    go_wp2
    go_quiet (fail)
    go_wp2
    go_ret
    exact ⟨rfl, _, rfl⟩

theorem u8_sub (c : UInt8) (h : Sv.digB c = true) : 48 ≤ (c.toNat : Int) ∧ (c.toNat : Int) ≤ 57 := by
  have := Sv.dig_rng c h; omega

set_option maxHeartbeats 400000 in
theorem kind_yes (b : Nat) (s : ByteArray) (i : Nat) (v : Value) (w : World) (hi : i ≤ s.size) (hs : s.size ≤ 400) (h : Sv.digB (Sv.pk s.data.toList (Sv.sk s.data.toList i)) = true) (hb : PAt b s i v w) :
    Calls Tryz.prog 180 #[.pointer (some ⟨b, 0, none⟩)] w fun e w' => e = .returned (.tuple #[.int .i64 ((Sv.pk s.data.toList (Sv.sk s.data.toList i)).toNat - 48), .nilIface]) ∧ PAt b s (Sv.sk s.data.toList i + 1) v w' ∧ w.grownBy w' (some b) := by
  have hle := Sv.sk_le s.data.toList i (by simpa using hi)
  rw [size_list] at hle
  obtain ⟨hle1, hle2⟩ := hle
  have hr := u8_sub _ h
  obtain ⟨hr1, hr2⟩ := hr
  go_enter Tryz.func180, Tryz.ntmps180
  go_wp2_with (go_at_call 88; refine (skip_w b s i v _ hi hs hb).mono ?_; rintro e w1 ⟨rfl, hb1, hg1⟩)
  refine (peek_w b s _ v _ hle2 hs hb1).mono ?_
  rintro e w2 ⟨rfl, n, rfl⟩
  have c1 := hb1.c1
  have f1 := hb1.fz 1
  go_wp2_with (go_at_call 198; refine (isDigit_w _ _).mono ?_; rintro e w3 ⟨rfl, rfl⟩)
  go_ret2
  exact ⟨rfl, PAt.set1 hb1 _, gr_trans hg1 (gr_trans (gr_set w1 b 1 _) (gr_drewN _ _ _))⟩

set_option maxHeartbeats 400000 in
theorem kind_no (b : Nat) (s : ByteArray) (i : Nat) (v : Value) (w : World) (tT : TypeId) (aT : Addr) (eL : Value) (hi : i ≤ s.size) (hs : s.size ≤ 400) (h : Sv.digB (Sv.pk s.data.toList (Sv.sk s.data.toList i)) = false) (hb : PAt b s i v w) (hG : GOk b (.iface tT (.pointer (some aT))) eL w) :
    Calls Tryz.prog 180 #[.pointer (some ⟨b, 0, none⟩)] w fun e w' => ∃ y, e = .returned (.tuple #[.int .i64 0, y]) ∧ Bad b (Sv.sk s.data.toList i) (.iface tT (.pointer (some aT))) w y w' := by
  have hle := Sv.sk_le s.data.toList i (by simpa using hi)
  rw [size_list] at hle
  obtain ⟨hle1, hle2⟩ := hle
  go_enter Tryz.func180, Tryz.ntmps180
  go_wp2_with (go_at_call 88; refine (skip_w b s i v _ hi hs hb).mono ?_; rintro e w1 ⟨rfl, hb1, hg1⟩)
  refine (peek_w b s _ v _ hle2 hs hb1).mono ?_
  rintro e w2 ⟨rfl, n, rfl⟩
  have cT := (hG.kept hg1).cT
  go_wp2_with (go_at_call 198; refine (isDigit_w _ _).mono ?_; rintro e w3 ⟨rfl, rfl⟩)
  refine (wrong_w b s _ v _ tT aT (hb1.drewN n) cT).mono ?_
  rintro e w4 ⟨f, rfl, hf, hF, hg2⟩
  have hg := gr_trans hg1 (gr_trans (gr_drewN w1 n _) (gr_any hg2 (some b)))
  have hf' : w.heap.size ≤ f := Nat.le_trans hg1.size hf
  go_wp2
  go_ret2
  exact ⟨_, rfl, f, rfl, hf', hF, hg⟩


theorem gr_below {w w' : World} (h : Below w.heap.size w w') (row : Option Nat) : w.grownBy w' row := ⟨h.os, h.tape, h.output, h.size, fun k hk _ => h.block k hk⟩

set_option maxHeartbeats 400000 in
theorem clone_w (s : ByteArray) (w : World) (hs : s.size ≤ 400) :
    Calls Tryz.prog 155 #[.string s] w fun e w' => e = .returned (.string s) ∧ w.grownBy w' none := by
  go_enter Tryz.func155, Tryz.ntmps155
  go_wp2_with (go_at_call 179; refine (Tryz.stringslite_Clone s _ (by omega)).mono ?_; rintro e w1 ⟨rfl, hb1⟩)
  go_ret
  exact ⟨rfl, gr_below hb1 _⟩

theorem Sv.nmF_step (n : Nat) (l : List UInt8) (i : Nat) : Sv.nmF (n + 1) l i = if Sv.letB (Sv.pk l i) = true then Sv.nmF n l (i + 1) else i := rfl
theorem Sv.nm_first (l : List UInt8) (i : Nat) (h : Sv.nmF 8 l i = i) : Sv.letB (Sv.pk l i) = false := by
  cases hc : Sv.letB (Sv.pk l i)
  · rfl
  · exfalso
    rw [show (8 : Nat) = 7 + 1 from rfl, Sv.nmF_step, if_pos hc] at h
    have := (Sv.nmF_le 7 l (i + 1) (Sv.let_pos l i hc)).1
    omega

set_option maxHeartbeats 400000 in
theorem name_no (b : Nat) (s : ByteArray) (i : Nat) (v : Value) (w : World) (tT : TypeId) (aT : Addr) (eL : Value) (hi : i ≤ s.size) (hs : s.size ≤ 400) (h : Sv.nmF 8 s.data.toList i = i) (hb : PAt b s i v w) (hG : GOk b (.iface tT (.pointer (some aT))) eL w) :
    Calls Tryz.prog 125 #[.pointer (some ⟨b, 0, none⟩)] w fun e w' => ∃ y, e = .returned (.tuple #[.string ⟨#[]⟩, y]) ∧ Bad b i (.iface tT (.pointer (some aT))) w y w' := by
  have hl := Sv.nm_first _ _ h
  clear h
  have c1 := hb.c1
  have cT := hG.cT
  have e1 : ((i : Int) == (i : Int)) = true := by simp
  go_enter Tryz.func125, Tryz.ntmps125
  go_wp2
  go_loopw [] (fun w' => w' = w) (fun _ => 0)
  case atStart => rfl
  case round =>
    subst hrel
    go_wp2_with (first | (go_at_call 124; refine (peek_w b s i v _ hi hs hb).mono ?_; rintro e w1 ⟨rfl, n, rfl⟩) | (go_at_call 153; refine (isLetter_w _ _).mono ?_; rintro e w3 ⟨rfl, rfl⟩))
    refine (wrong_w b s _ v _ tT aT (hb.drewN n) cT).mono ?_
    rintro e w4 ⟨f, rfl, hf, hF, hg2⟩
    have hg := gr_trans (gr_drewN wr n _) (gr_any hg2 (some b))
    go_wp2
    go_ret2
    exact ⟨_, rfl, f, rfl, hf, hF, hg⟩

/-- A piece of the text. -/
def Sv.cut (l : List UInt8) (i j : Nat) : List UInt8 := (l.take j).drop i
theorem extract_cut (s : ByteArray) (i j : Nat) : s.extract i j = ⟨(Sv.cut s.data.toList i j).toArray⟩ := by
  apply ByteArray.ext
  rw [ByteArray.data_extract]
  apply Array.ext'
  simp [Sv.cut, Array.toList_extract, List.drop_take]

set_option maxHeartbeats 400000 in
theorem name_yes (b : Nat) (s : ByteArray) (i : Nat) (v : Value) (w : World) (hi : i ≤ s.size) (hs : s.size ≤ 400) (h : Sv.nmF 8 s.data.toList i ≠ i) (hb : PAt b s i v w) :
    Calls Tryz.prog 125 #[.pointer (some ⟨b, 0, none⟩)] w fun e w' => e = .returned (.tuple #[.string ⟨(Sv.cut s.data.toList i (Sv.nmF 8 s.data.toList i)).toArray⟩, .nilIface]) ∧ PAt b s (Sv.nmF 8 s.data.toList i) v w' ∧ w.grownBy w' (some b) := by
  have hnl := Sv.nmF_le 8 s.data.toList i (by simpa using hi)
  rw [size_list] at hnl
  obtain ⟨hn1, hn2, hn3⟩ := hnl
  obtain ⟨j, hj⟩ : ∃ j, Sv.nmF 8 s.data.toList i = j := ⟨_, rfl⟩
  rw [hj] at h hn1 hn2 hn3 ⊢
  have HJ : Hid (Sv.nmF 8 s.data.toList i = j) := hj
  clear hj
  have c1 := hb.c1
  go_enter Tryz.func125, Tryz.ntmps125
  go_wp2
  go_loopw [] (fun w' => ∃ k m : Nat, k + m = i + 8 ∧ k ≤ s.size ∧ i ≤ k ∧ PAt b s k v w' ∧ w.grownBy w' (some b) ∧ Sv.nmF m s.data.toList k = j) (fun w' => s.size - atOf b w')
  case atStart => exact ⟨i, 8, rfl, hi, Nat.le_refl _, hb, World.grownBy.refl _ _, HJ.out⟩
  case round =>
    obtain ⟨k, m, hkm, hk, hik, hbk, hg, hnm⟩ := hrel
    have HN : Hid (Sv.nmF m s.data.toList k = j) := hnm
    have HK : Hid (k + m = i + 8) := hkm
    have HA : Hid (atOf b wr = k) := hbk.at
    clear hnm hkm c1
    have c1 := hbk.c1
    have f1 := hbk.fz 1
    cases hl : Sv.letB (Sv.pk s.data.toList k)
    · obtain rfl : k = j := by
        have := HN.out
        cases m with
        | zero => exact this
        | succ m => rw [Sv.nmF_step, hl] at this; exact this
      have e1 : ((k : Int) == (i : Int)) = false := by simp; omega
      go_wp2_with (first | (go_at_call 124; refine (peek_w b s k v _ hk hs hbk).mono ?_; rintro e w1 ⟨rfl, n, rfl⟩) | (go_at_call 153; refine (isLetter_w _ _).mono ?_; rintro e w3 ⟨rfl, rfl⟩))
      have c0 := hbk.c0
      have hik' : (i : Int) ≤ (k : Int) := by omega
      have hks' : (k : Int) ≤ (s.size : Int) := by omega
      have hcl : (s.extract i k).size ≤ 400 := by rw [ByteArray.size_extract]; omega
      go_region_with (go_at_call 155; refine (clone_w _ _ hcl).mono ?_; rintro e w1 ⟨rfl, hg1⟩)
      all_goals
        go_wp2
        go_ret2
        exact ⟨by rw [← extract_cut]; rfl, (hbk.drewN _).kept hg1 (by simp), gr_trans hg (gr_trans (gr_drewN wr _ _) (gr_any hg1 _))⟩
    · have hkp := Sv.let_pos _ _ hl
      rw [size_list] at hkp
      cases m with
      | zero =>
        obtain rfl : k = j := HN.out
        have hk8 : k = i + 8 := HK.out
        have e1 : ((k : Int) == (i : Int)) = false := by simp; omega
        have e2 : decide ((k : Int) < (i : Int) + 8) = false := by simp; omega
        have HK8 : Hid (k = i + 8) := hk8
        clear hk8
        go_wp2_with (first | (go_at_call 124; refine (peek_w b s k v _ hk hs hbk).mono ?_; rintro e w1 ⟨rfl, n, rfl⟩) | (go_at_call 153; refine (isLetter_w _ _).mono ?_; rintro e w3 ⟨rfl, rfl⟩))
        have c0 := hbk.c0
        have hik' : (i : Int) ≤ (k : Int) := by omega
        have hks' : (k : Int) ≤ (s.size : Int) := by omega
        have hcl : (s.extract i k).size ≤ 400 := by rw [ByteArray.size_extract]; omega
        go_region_with (go_at_call 155; refine (clone_w _ _ hcl).mono ?_; rintro e w1 ⟨rfl, hg1⟩)
        all_goals
          go_wp2
          go_ret2
          exact ⟨by rw [← extract_cut]; rfl, (hbk.drewN _).kept hg1 (by simp), gr_trans hg (gr_trans (gr_drewN wr _ _) (gr_any hg1 _))⟩
      | succ m =>
        have hk8 : k < i + 8 := by have := HK.out; omega
        have e2 : decide ((k : Int) < (i : Int) + 8) = true := by simp; omega
        go_wp2_with (first | (go_at_call 124; refine (peek_w b s k v _ hk hs hbk).mono ?_; rintro e w1 ⟨rfl, n, rfl⟩) | (go_at_call 153; refine (isLetter_w _ _).mono ?_; rintro e w3 ⟨rfl, rfl⟩))
        go_roundw
        case rel => exact ⟨k + 1, m, by have := HK.out; omega, by omega, by omega, (PAt.set1 hbk (k + 1)), gr_trans hg (gr_trans (gr_set wr b 1 _) (gr_drewN _ _ _)), by have := HN.out; rw [Sv.nmF_step, hl] at this; exact this⟩
        case measure =>
          have h2 : atOf b ((wr.setCell ⟨b, 1, none⟩ (.int .i64 ((k + 1 : Nat) : Int)))) = k + 1 := (PAt.set1 hbk (k + 1)).at
          show s.size - atOf b ((wr.setCell ⟨b, 1, none⟩ (.int .i64 ((k + 1 : Nat) : Int)))) < s.size - atOf b wr
          rw [h2, HA.out]; omega

end Go.Proofs.YtolhbeekfjnfmaaGreatDoor

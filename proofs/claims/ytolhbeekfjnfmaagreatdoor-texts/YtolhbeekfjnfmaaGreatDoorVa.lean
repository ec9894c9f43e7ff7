/- The document's reader: its small steps. -/
import Derived.Test.YtolhbeekfjnfmaaGreatDoorWp
namespace Go.Proofs.YtolhbeekfjnfmaaGreatDoor
open Go.RowKit

/-- The document's reader lies at block b: its text, its place, whether the text is wrong there. -/
def VAt (b : Nat) (s : ByteArray) (i : Nat) (bad : Bool) (w : World) : Prop := w.heap[b]? = some (.cells #[.string s, .int .i64 i, .bool bad] 229 (0, 0))
theorem VAt.c0 {b : Nat} {s : ByteArray} {i : Nat} {v : Bool} {w : World} (h : VAt b s i v w) : w.cell? ⟨b, 0, none⟩ = some (.string s) := by
  unfold VAt at h; simp [World.cell?, h]
theorem VAt.c1 {b : Nat} {s : ByteArray} {i : Nat} {v : Bool} {w : World} (h : VAt b s i v w) : w.cell? ⟨b, 1, none⟩ = some (.int .i64 i) := by
  unfold VAt at h; simp [World.cell?, h]
theorem VAt.c2 {b : Nat} {s : ByteArray} {i : Nat} {v : Bool} {w : World} (h : VAt b s i v w) : w.cell? ⟨b, 2, none⟩ = some (.bool v) := by
  unfold VAt at h; simp [World.cell?, h]
theorem VAt.fz {b : Nat} {s : ByteArray} {i : Nat} {v : Bool} {w : World} (h : VAt b s i v w) (o : Nat) : w.frozen? ⟨b, o, none⟩ = false := by
  unfold VAt at h; simp [World.frozen?, h]
theorem VAt.lt {b : Nat} {s : ByteArray} {i : Nat} {v : Bool} {w : World} (h : VAt b s i v w) : b < w.heap.size := row_lt h
theorem VAt.kept {b : Nat} {s : ByteArray} {i : Nat} {v : Bool} {w w' : World} {row : Option Nat} (h : VAt b s i v w) (g : w.grownBy w' row) (hne : some b ≠ row) : VAt b s i v w' := by
  unfold VAt; rw [g.block b h.lt hne]; exact h
theorem VAt.set1 {b : Nat} {s : ByteArray} {i : Nat} {v : Bool} {w : World} (h : VAt b s i v w) (j : Nat) : VAt b s j v (w.setCell ⟨b, 1, none⟩ (.int .i64 j)) := by
  unfold VAt at h ⊢; rw [heap_setCell_same w b 1 _ _ _ h]; rfl
theorem VAt.set2 {b : Nat} {s : ByteArray} {i : Nat} {v : Bool} {w : World} (h : VAt b s i v w) (u : Bool) : VAt b s i u (w.setCell ⟨b, 2, none⟩ (.bool u)) := by
  unfold VAt at h ⊢; rw [heap_setCell_same w b 2 _ _ _ h]; rfl
theorem VAt.drewN {b : Nat} {s : ByteArray} {i : Nat} {v : Bool} {w : World} (h : VAt b s i v w) (n : Nat) : VAt b s i v (w.drewN n) := h
theorem VAt.at {b : Nat} {s : ByteArray} {i : Nat} {v : Bool} {w : World} (h : VAt b s i v w) : atOf b w = i := by
  unfold atOf; rw [h.c1]; simp
theorem VAt.rowOk {b : Nat} {s : ByteArray} {i : Nat} {v : Bool} {w : World} (h : VAt b s i v w) : RowOk 0 229 (some b) w := by
  intro g hg; cases hg; exact ⟨Nat.zero_le _, _, _, h⟩
theorem VAt.row {b : Nat} {s : ByteArray} {j : Nat} {v : Bool} {w w' : World} {row : Option Nat} {base : Nat} {e : TypeId} (h : VAt b s j v w) (hg : w.grownBy w' row) (hr : RowOk base e row w) (he : e ≠ 229) : VAt b s j v w' := by
  refine h.kept hg (fun e1 => ?_)
  obtain ⟨_, cur, fz, h2⟩ := hr b e1.symm
  unfold VAt at h
  rw [h] at h2
  simp at h2
  exact he h2.2.1.symm

set_option maxHeartbeats 400000 in
theorem vletter_w (c : UInt8) (w : World) :
    Calls Tryz.prog 176 #[.int .u8 c.toNat] w fun e w' => e = .returned (.bool (Sv.letB c)) ∧ w' = w := by
  unfold Sv.letB
  by_cases h1 : 97 ≤ c.toNat
  · by_cases h2 : c.toNat ≤ 122
    · have e1 : decide ((97 : Int) ≤ c.toNat) = true := by simp; omega
      have e2 : decide ((c.toNat : Int) ≤ 122) = true := by simp; omega
      go_enter Tryz.func176, Tryz.ntmps176
      go_wp2
      go_ret
      exact ⟨by simp [h1, h2], rfl⟩
    · have e1 : decide ((97 : Int) ≤ c.toNat) = true := by simp; omega
      have e2 : decide ((c.toNat : Int) ≤ 122) = false := by simp; omega
      go_enter Tryz.func176, Tryz.ntmps176
      go_wp2
      go_ret
      exact ⟨by simp [h2], rfl⟩
  · have e1 : decide ((97 : Int) ≤ c.toNat) = false := by simp; omega
    go_enter Tryz.func176, Tryz.ntmps176
    go_wp2
    go_ret
    exact ⟨by simp [h1], rfl⟩

set_option maxHeartbeats 400000 in
theorem vdigit_w (c : UInt8) (w : World) :
    Calls Tryz.prog 177 #[.int .u8 c.toNat] w fun e w' => e = .returned (.bool (Sv.digB c)) ∧ w' = w := by
  unfold Sv.digB
  by_cases h1 : 48 ≤ c.toNat
  · by_cases h2 : c.toNat ≤ 57
    · have e1 : decide ((48 : Int) ≤ c.toNat) = true := by simp; omega
      have e2 : decide ((c.toNat : Int) ≤ 57) = true := by simp; omega
      go_enter Tryz.func177, Tryz.ntmps177
      go_wp2
      go_ret
      exact ⟨by simp [h1, h2], rfl⟩
    · have e1 : decide ((48 : Int) ≤ c.toNat) = true := by simp; omega
      have e2 : decide ((c.toNat : Int) ≤ 57) = false := by simp; omega
      go_enter Tryz.func177, Tryz.ntmps177
      go_wp2
      go_ret
      exact ⟨by simp [h2], rfl⟩
  · have e1 : decide ((48 : Int) ≤ c.toNat) = false := by simp; omega
    go_enter Tryz.func177, Tryz.ntmps177
    go_wp2
    go_ret
    exact ⟨by simp [h1], rfl⟩

set_option maxHeartbeats 400000 in
theorem vhere_w (b : Nat) (s : ByteArray) (i : Nat) (w : World) (hi : i ≤ s.size) (_hs : s.size ≤ 400) (hb : VAt b s i false w) :
    Calls Tryz.prog 148 #[.pointer (some ⟨b, 0, none⟩)] w fun e w' => e = .returned (.int .u8 (Sv.pk s.data.toList i).toNat) ∧ ∃ n, w' = w.drewN n := by
  have c0 := hb.c0
  have c1 := hb.c1
  have c2 := hb.c2
  by_cases h : i = s.size
  · have e : decide ((s.size : Int) ≤ (i : Int)) = true := by simp; omega
    go_enter Tryz.func148, Tryz.ntmps148
    go_wp2
    go_quiet (fail)
    go_wp2
    go_ret
    exact ⟨by rw [Sv.pk_end _ _ (by simp; omega)]; rfl, _, rfl⟩
  · have e : decide ((s.size : Int) ≤ (i : Int)) = false := by simp; omega
    have hlt : i < s.size := by omega
    go_enter Tryz.func148, Tryz.ntmps148
    go_wp2
    go_quiet (fail)
    go_wp2
    go_quiet (fail)
    go_wp2
    go_ret
    exact ⟨by rw [pk_get _ _ hlt]; rfl, _, World.drewN_drewN _ _ _⟩

set_option maxHeartbeats 400000 in
theorem vhere_bad (b : Nat) (s : ByteArray) (i : Nat) (w : World) (hb : VAt b s i true w) :
    Calls Tryz.prog 148 #[.pointer (some ⟨b, 0, none⟩)] w fun e w' => e = .returned (.int .u8 0) ∧ ∃ n, w' = w.drewN n := by
  have c2 := hb.c2
  go_enter Tryz.func148, Tryz.ntmps148
  go_wp2
  go_quiet (fail)
  go_wp2
  go_ret
  exact ⟨rfl, _, rfl⟩

set_option maxHeartbeats 400000 in
theorem vblanks_bad (b : Nat) (s : ByteArray) (i : Nat) (w : World) (hb : VAt b s i true w) :
    Calls Tryz.prog 117 #[.pointer (some ⟨b, 0, none⟩)] w fun e w' => e = .returned (.tuple #[]) ∧ VAt b s i true w' ∧ w.grownBy w' (some b) := by
  go_enter Tryz.func117, Tryz.ntmps117
  go_wp2
  go_loopw [] (fun w' => w' = w) (fun _ => 0)
  case atStart => rfl
  case round =>
    subst hrel
    go_wp2_with (go_at_call 148; refine (vhere_bad b s i _ (by first | exact hb | exact hb.drewN _)).mono ?_; rintro e w' ⟨rfl, n, rfl⟩)
    go_end0
    exact ⟨rfl, hb, gr_drewN _ _ _⟩

set_option maxHeartbeats 400000 in
theorem vblanks_w (b : Nat) (s : ByteArray) (i : Nat) (w : World) (hi : i ≤ s.size) (hs : s.size ≤ 400) (hb : VAt b s i false w) :
    Calls Tryz.prog 117 #[.pointer (some ⟨b, 0, none⟩)] w fun e w' => e = .returned (.tuple #[]) ∧ VAt b s (Sv.sk s.data.toList i) false w' ∧ w.grownBy w' (some b) := by
  go_enter Tryz.func117, Tryz.ntmps117
  go_wp2
  go_loopw [] (fun w' => ∃ k : Nat, k ≤ s.size ∧ VAt b s k false w' ∧ w.grownBy w' (some b) ∧ Sv.sk s.data.toList k = Sv.sk s.data.toList i) (fun w' => s.size - atOf b w')
  case atStart => exact ⟨i, hi, hb, World.grownBy.refl _ _, rfl⟩
  case round =>
    obtain ⟨k, hk, hbk, hg, hsk⟩ := hrel
    have HS : Hid (Sv.sk s.data.toList k = Sv.sk s.data.toList i) := hsk
    clear hsk
    have HA : Hid (atOf b wr = k) := hbk.at
    cases h1 : Sv.pk s.data.toList k == 32
    · cases h2 : Sv.pk s.data.toList k == 10
      · have hno := Sv.sk_no s.data.toList k (by simp [Sv.blB, h1, h2])
        have HN : Hid (Sv.sk s.data.toList k = k) := hno
        clear hno
        have e1 := (u8_32 (Sv.pk s.data.toList k)).trans h1
        have e2 := (u8_10 (Sv.pk s.data.toList k)).trans h2
        clear h1 h2
        go_wp2_with (go_at_call 148; refine (vhere_w b s k _ hk hs (by first | exact hbk | exact hbk.drewN _)).mono ?_; rintro e w' ⟨rfl, n, rfl⟩)
        go_end0
        refine ⟨rfl, ?_, ?_⟩
        · rw [← HS.out, HN.out]; exact hbk
        · exact gr_trans hg (gr_drewN _ _ _)
      · have hyes := Sv.sk_yes s.data.toList k (by simp [Sv.blB, h2])
        rw [size_list] at hyes
        obtain ⟨hn, hlt⟩ := hyes
        have HN : Hid (Sv.sk s.data.toList k = Sv.sk s.data.toList (k + 1)) := hn
        clear hn
        have e1 := (u8_32 (Sv.pk s.data.toList k)).trans h1
        have e2 := (u8_10 (Sv.pk s.data.toList k)).trans h2
        clear h1 h2
        have c1 := hbk.c1
        have f1 := hbk.fz 1
        go_wp2_with (go_at_call 148; refine (vhere_w b s k _ hk hs (by first | exact hbk | exact hbk.drewN _)).mono ?_; rintro e w' ⟨rfl, n, rfl⟩)
        go_roundw
        case rel => exact ⟨k + 1, by omega, (VAt.set1 hbk (k + 1)), gr_trans hg (gr_trans (gr_set wr b 1 _) (gr_drewN _ _ _)), by rw [← HN.out]; exact HS.out⟩
        case measure =>
          have h2 : atOf b ((wr.setCell ⟨b, 1, none⟩ (.int .i64 ((k + 1 : Nat) : Int)))) = k + 1 := (VAt.set1 hbk (k + 1)).at
          show s.size - atOf b ((wr.setCell ⟨b, 1, none⟩ (.int .i64 ((k + 1 : Nat) : Int)))) < s.size - atOf b wr
          rw [h2, HA.out]; omega
    · have hyes := Sv.sk_yes s.data.toList k (by simp [Sv.blB, h1])
      rw [size_list] at hyes
      obtain ⟨hn, hlt⟩ := hyes
      have HN : Hid (Sv.sk s.data.toList k = Sv.sk s.data.toList (k + 1)) := hn
      clear hn
      have e1 := (u8_32 (Sv.pk s.data.toList k)).trans h1
      clear h1
      have c1 := hbk.c1
      have f1 := hbk.fz 1
      go_wp2_with (go_at_call 148; refine (vhere_w b s k _ hk hs (by first | exact hbk | exact hbk.drewN _)).mono ?_; rintro e w' ⟨rfl, n, rfl⟩)
      go_roundw
      case rel => exact ⟨k + 1, by omega, (VAt.set1 hbk (k + 1)), gr_trans hg (gr_trans (gr_set wr b 1 _) (gr_drewN _ _ _)), by rw [← HN.out]; exact HS.out⟩
      case measure =>
        have h2 : atOf b ((wr.setCell ⟨b, 1, none⟩ (.int .i64 ((k + 1 : Nat) : Int)))) = k + 1 := (VAt.set1 hbk (k + 1)).at
        show s.size - atOf b ((wr.setCell ⟨b, 1, none⟩ (.int .i64 ((k + 1 : Nat) : Int)))) < s.size - atOf b wr
        rw [h2, HA.out]; omega

set_option maxHeartbeats 400000 in
theorem vone_yes (b : Nat) (s : ByteArray) (i : Nat) (c : UInt8) (x : Int) (hx : x = c.toNat) (w : World) (hi : i ≤ s.size) (hs : s.size ≤ 400) (h : (Sv.pk s.data.toList i == c) = true) (hb : VAt b s i false w) :
    Calls Tryz.prog 150 #[.pointer (some ⟨b, 0, none⟩), .int .u8 x] w fun e w' => e = .returned (.tuple #[]) ∧ VAt b s (i + 1) false w' ∧ w.grownBy w' (some b) := by
  subst hx
  have e1 := u8_eq _ _ h
  clear h
  have c1 := hb.c1
  have c2 := hb.c2
  have f1 := hb.fz 1
  go_enter Tryz.func150, Tryz.ntmps150
  go_wp2_with (go_at_call 148; refine (vhere_w b s i _ hi hs hb).mono ?_; rintro e w' ⟨rfl, n, rfl⟩)
  go_end0
  exact ⟨rfl, VAt.set1 hb _, gr_trans (gr_drewN w n _) (gr_set _ b 1 _)⟩

set_option maxHeartbeats 400000 in
theorem vone_no (b : Nat) (s : ByteArray) (i : Nat) (c : UInt8) (x : Int) (hx : x = c.toNat) (w : World) (hi : i ≤ s.size) (hs : s.size ≤ 400) (h : (Sv.pk s.data.toList i == c) = false) (hb : VAt b s i false w) :
    Calls Tryz.prog 150 #[.pointer (some ⟨b, 0, none⟩), .int .u8 x] w fun e w' => e = .returned (.tuple #[]) ∧ VAt b s i true w' ∧ w.grownBy w' (some b) := by
  subst hx
  have e1 := u8_ne _ _ h
  clear h
  have c2 := hb.c2
  have f2 := hb.fz 2
  have d2 := (hb.set2 true).c2
  go_enter Tryz.func150, Tryz.ntmps150
  go_wp2_with (go_at_call 148; refine (vhere_w b s i _ hi hs hb).mono ?_; rintro e w' ⟨rfl, n, rfl⟩)
  go_end0
  exact ⟨rfl, VAt.set2 hb _, gr_trans (gr_drewN w n _) (gr_set _ b 2 _)⟩

set_option maxHeartbeats 400000 in
theorem vone_bad (b : Nat) (s : ByteArray) (i : Nat) (c : UInt8) (hc : c ≠ 0) (x : Int) (hx : x = c.toNat) (w : World) (hb : VAt b s i true w) :
    Calls Tryz.prog 150 #[.pointer (some ⟨b, 0, none⟩), .int .u8 x] w fun e w' => e = .returned (.tuple #[]) ∧ VAt b s i true w' ∧ w.grownBy w' (some b) := by
  subst hx
  have e1 : ((0 : Int) != (c.toNat : Int)) = true := u8_ne 0 c (by simpa using hc.symm)
  have c2 := hb.c2
  have f2 := hb.fz 2
  have d2 := (hb.set2 true).c2
  go_enter Tryz.func150, Tryz.ntmps150
  go_wp2_with (go_at_call 148; refine (vhere_bad b s i _ hb).mono ?_; rintro e w' ⟨rfl, n, rfl⟩)
  go_end0
  exact ⟨rfl, VAt.set2 hb _, gr_trans (gr_drewN w n _) (gr_set _ b 2 _)⟩

end Go.Proofs.YtolhbeekfjnfmaaGreatDoor

/- Stopped. -/
import Derived.Test.YtolhbeekfjnfmaaDoorPx
import Derived.KernelRfl
namespace Go.Proofs.YtolhbeekfjnfmaaDoor
open Go.RowKit

theorem Sv.ex1 : Sv.rules [97, 32, 58, 32, 40, 32, 49, 32, 120, 32, 45, 48, 53, 32, 95, 32, 41, 32, 33, 32, 40, 50, 120, 55, 41, 32, 59, 32] = .inr [⟨[97], [⟨false, 1, [⟨1, 120, 0⟩, ⟨2, 0, -5⟩, ⟨0, 0, 0⟩]⟩, ⟨true, 2, [⟨1, 120, 0⟩, ⟨2, 0, 7⟩]⟩]⟩] := by kernel_rfl
theorem Sv.ex2 : Sv.rules [97, 58, 40, 49, 120] = .inl 5 := by kernel_rfl
theorem itoa1 : Lib.itoa 1 = [49] := by unfold Lib.itoa; rw [if_neg (by decide)]; exact Lib.decDigits_one (by decide)
theorem itoa2 : Lib.itoa 2 = [50] := by unfold Lib.itoa; rw [if_neg (by decide)]; exact Lib.decDigits_one (by decide)
theorem itoa7 : Lib.itoa 7 = [55] := by unfold Lib.itoa; rw [if_neg (by decide)]; exact Lib.decDigits_one (by decide)
theorem itoam5 : Lib.itoa (-5) = [45, 53] := by
  unfold Lib.itoa
  rw [if_pos (by decide), show (-5 : Int).natAbs = 5 from rfl, Lib.decDigits_one (by decide)]
  rfl
theorem Sv.face1 : Sv.face [97, 32, 58, 32, 40, 32, 49, 32, 120, 32, 45, 48, 53, 32, 95, 32, 41, 32, 33, 32, 40, 50, 120, 55, 41, 32, 59, 32] = ([97, 58, 40, 49, 32, 120, 32, 45, 53, 32, 95, 41, 33, 40, 50, 32, 120, 32, 55, 41, 59, 10], 1, 0) := by
  unfold Sv.face
  rw [if_neg (by decide), Sv.ex1]
  simp only
  rw [if_neg (by simp [Sv.ex, Sv.exR, Sv.exC])]
  simp [Sv.pl, Sv.plR, Sv.plC, Sv.plT, itoa7, itoam5, itoa1, itoa2]
theorem Sv.face2 : Sv.face [97, 58, 40, 49, 120] = ([], 5, 1) := by
  unfold Sv.face
  rw [if_neg (by decide), Sv.ex2]

/-- What the face's number says. -/
theorem Sv.face_cases (l : List UInt8) : ((Sv.face l).2.2 = 0) ∨ ((Sv.face l).2.2 = 2) ∨ ((Sv.face l).2.2 = 1 ∧ Sv.rules l = .inl (Sv.face l).2.1 ∧ l.length ≤ 400) := by
  unfold Sv.face
  split
  · exact .inr (.inl rfl)
  · cases hr : Sv.rules l with
    | inl k => exact .inr (.inr ⟨rfl, rfl, by omega⟩)
    | inr rs =>
      simp only
      split
      · exact .inr (.inl rfl)
      · exact .inl rfl
theorem Sv.face_inl (l : List UInt8) (n : Nat) (h : Sv.rules l = .inl n) (hl : l.length ≤ 400) : Sv.face l = ([], n, 1) := by
  unfold Sv.face
  rw [if_neg (by omega), h]

theorem facec_w (s : ByteArray) (r : List UInt8 × Nat × Nat) (hr : Sv.face s.data.toList = r) (aT aL : Addr) (w : World) (hL : LD aT aL w) (hP : 3 < w.heap.size) (hm : s.size ≤ maxLen) :
    Calls Tryd.prog 4 #[.string s] w fun e w' => e = .returned (.tuple #[.string ⟨r.1.toArray⟩, .int .i64 r.2.1, .int .i64 r.2.2]) ∧ LD aT aL w' ∧ 3 < w'.heap.size ∧ w.grownBy w' none := by
  subst hr
  refine (face_w s aT aL w hL hP hm).mono ?_
  rintro e w' ⟨rfl, hg⟩
  exact ⟨rfl, hL.kept hg hP, Nat.lt_of_lt_of_le hP hg.size, hg⟩

theorem take_list (s : ByteArray) (n : Nat) (_h : n ≤ s.size) : (s.extract 0 n).data.toList = s.data.toList.take n := by
  rw [ByteArray.data_extract]
  simp

set_option maxHeartbeats 2000000 in
theorem stopped_no (text more : ByteArray) (aT aL : Addr) (w : World) (hL : LD aT aL w) (hP : 3 < w.heap.size) (h1 : text.size ≤ maxLen) (o : List UInt8) (n m : Nat) (hf : Sv.face text.data.toList = (o, n, m)) (hno : m = 0 ∨ m = 2 ∨ (m = 1 ∧ text.size ≤ n)) :
    Calls Tryd.prog 3 #[.string text, .string more] w fun e w' => e = .returned (.bool true) ∧ w.grownBy w' none := by
  have HF := hide hf
  clear hf
  go_enter Tryd.func3, Tryd.ntmps3
  go_wp2_with fail
  refine (facec_w _ _ Sv.face1 aT aL w hL hP (by decide)).mono ?_
  rintro e w1 ⟨rfl, hL1, hP1, hg1⟩
  go_wp2_with fail
  refine (facec_w _ _ Sv.face2 aT aL w1 hL1 hP1 (by decide)).mono ?_
  rintro e w2 ⟨rfl, hL2, hP2, hg2⟩
  have hg12 := gr_trans hg1 hg2
  go_wp2_with fail
  refine (facec_w _ _ (unhide HF) aT aL w2 hL2 hP2 h1).mono ?_
  rintro e w3 ⟨rfl, hL3, hP3, hg3⟩
  have hg13 := gr_trans hg12 hg3
  clear HF hL hL1 hL2 hL3 hP hP1 hP2 hP3 hg1 hg2 hg12 hg3
  simp only
  rcases hno with rfl | rfl | ⟨rfl, hn⟩
  · go_wp2
    go_ret
    exact ⟨rfl, hg13⟩
  · go_wp2
    go_ret
    exact ⟨rfl, hg13⟩
  · have e1 : decide ((text.size : Int) ≤ (n : Int)) = true := by simp; omega
    go_wp2
    go_ret
    exact ⟨rfl, hg13⟩

set_option maxHeartbeats 4000000 in
theorem stopped_yes (text more : ByteArray) (aT aL : Addr) (w : World) (hL : LD aT aL w) (hP : 3 < w.heap.size) (h2 : more.size ≤ 140737488355328) (n : Nat) (hr : Sv.rules text.data.toList = .inl n) (hl : text.size ≤ 400) (hn : n < text.size) :
    Calls Tryd.prog 3 #[.string text, .string more] w fun e w' => e = .returned (.bool true) ∧ w.grownBy w' none := by
  have hlist : text.data.toList.length ≤ 400 := by simpa using hl
  have hlist2 : n < text.data.toList.length := by simpa using hn
  have hf0 := Sv.face_inl _ n hr hlist
  have hc1 : Sv.face (text.extract 0 (n + 1)).data.toList = ([], n, 1) := by
    rw [take_list _ _ (by omega)]
    have := Sv.cut_wrong _ n hr hlist2 []
    rw [List.append_nil] at this
    exact Sv.face_inl _ n this (by rw [List.length_take]; omega)
  obtain ⟨o2, k, g, hc2, hg2⟩ : ∃ o2 k g, Sv.face (text.extract 0 n).data.toList = (o2, k, g) ∧ (g = 0 ∨ g = 2 ∨ (g = 1 ∧ k = n)) := by
    refine ⟨_, _, _, rfl, ?_⟩
    rcases Sv.face_cases (text.extract 0 n).data.toList with h | h | ⟨h, h3, _⟩
    · exact .inl h
    · exact .inr (.inl h)
    · refine .inr (.inr ⟨h, ?_⟩)
      rw [take_list _ _ (by omega)] at h3 ⊢
      exact Sv.ahead_wrong _ n _ hr hlist2 h3
  have hc3 : (n + 1) + more.size ≤ 400 → ∀ s : ByteArray, s.data.toList = text.data.toList.take (n + 1) ++ more.data.toList → Sv.face s.data.toList = ([], n, 1) := by
    intro hle s hs
    rw [hs]
    refine Sv.face_inl _ n (Sv.cut_wrong _ n hr hlist2 _) ?_
    rw [List.length_append, List.length_take, size_list, size_list]
    omega
  have HF0 := hide hf0
  have HC1 := hide hc1
  have HC2 := hide hc2
  have HC3 := hide hc3
  clear hf0 hc1 hc2 hc3 hr hlist hlist2
  have e1 : decide ((text.size : Int) ≤ (n : Int)) = false := by simp; omega
  have e2 : decide ((n : Int) < 0) = false := by simp
  have e3 : ((n : Int) == (n : Int)) = true := by simp
  go_enter Tryd.func3, Tryd.ntmps3
  go_wp2_with fail
  refine (facec_w _ _ Sv.face1 aT aL w hL hP (by decide)).mono ?_
  rintro e w1 ⟨rfl, hL1, hP1, hg1⟩
  clear hL hP
  go_wp2_with fail
  refine (facec_w _ _ Sv.face2 aT aL w1 hL1 hP1 (by decide)).mono ?_
  rintro e w2 ⟨rfl, hL2, hP2, hg2'⟩
  have hg12 := gr_trans hg1 hg2'
  clear hL1 hP1 hg1 hg2'
  go_wp2_with fail
  refine (facec_w _ _ (unhide HF0) aT aL w2 hL2 hP2 (by unfold maxLen; omega)).mono ?_
  rintro e w3 ⟨rfl, hL3, hP3, hg3⟩
  have hg13 := gr_trans hg12 hg3
  clear HF0 hL2 hP2 hg12 hg3
  simp only
  go_wp2_with fail
  refine (facec_w _ _ (unhide HC1) aT aL w3 hL3 hP3 (by unfold maxLen; rw [ByteArray.size_extract]; omega)).mono ?_
  rintro e w4 ⟨rfl, hL4, hP4, hg4⟩
  have hg14 := gr_trans hg13 hg4
  clear HC1 hL3 hP3 hg13 hg4
  simp only
  go_wp2_with fail
  refine (facec_w _ _ (unhide HC2) aT aL w4 hL4 hP4 (by unfold maxLen; rw [ByteArray.size_extract]; omega)).mono ?_
  rintro e w5 ⟨rfl, hL5, hP5, hg5⟩
  have hg15 := gr_trans hg14 hg5
  clear HC2 hL4 hP4 hg14 hg5
  simp only
  have hex : (text.extract 0 (n + 1)).size = n + 1 := by rw [ByteArray.size_extract]; omega
  rcases hg2 with rfl | rfl | ⟨rfl, hkn⟩
  · by_cases hle : (n + 1) + more.size ≤ 400
    · have e4 : decide ((400 : Int) < (n : Int) + 1 + (more.size : Int)) = false := by simp; omega
      have hcat : Sv.face (text.extract 0 (n + 1) ++ more).data.toList = ([], n, 1) := unhide HC3 hle _ (by rw [ByteArray.data_append, Array.toList_append, take_list _ _ (by omega)])
      have HC4 := hide hcat
      clear hcat HC3
      go_wp2_with fail
      refine (facec_w _ _ (unhide HC4) aT aL w5 hL5 hP5 (by unfold maxLen; rw [ByteArray.size_append, hex]; omega)).mono ?_
      rintro e w6 ⟨rfl, hL6, hP6, hg6⟩
      have hg16 := gr_trans hg15 hg6
      clear HC4 hL5 hP5 hg15 hg6 hL6 hP6
      simp only
      go_wp2
      go_ret
      exact ⟨rfl, hg16⟩
    · have e4 : decide ((400 : Int) < (n : Int) + 1 + (more.size : Int)) = true := by simp; omega
      clear HC3
      go_wp2_with fail
      go_ret
      exact ⟨rfl, hg15⟩
  · by_cases hle : (n + 1) + more.size ≤ 400
    · have e4 : decide ((400 : Int) < (n : Int) + 1 + (more.size : Int)) = false := by simp; omega
      have hcat : Sv.face (text.extract 0 (n + 1) ++ more).data.toList = ([], n, 1) := unhide HC3 hle _ (by rw [ByteArray.data_append, Array.toList_append, take_list _ _ (by omega)])
      have HC4 := hide hcat
      clear hcat HC3
      go_wp2_with fail
      refine (facec_w _ _ (unhide HC4) aT aL w5 hL5 hP5 (by unfold maxLen; rw [ByteArray.size_append, hex]; omega)).mono ?_
      rintro e w6 ⟨rfl, hL6, hP6, hg6⟩
      have hg16 := gr_trans hg15 hg6
      clear HC4 hL5 hP5 hg15 hg6 hL6 hP6
      simp only
      go_wp2
      go_ret
      exact ⟨rfl, hg16⟩
    · have e4 : decide ((400 : Int) < (n : Int) + 1 + (more.size : Int)) = true := by simp; omega
      clear HC3
      go_wp2_with fail
      go_ret
      exact ⟨rfl, hg15⟩
  · have hkn' := hkn.symm
    subst hkn'
    by_cases hle : (n + 1) + more.size ≤ 400
    · have e4 : decide ((400 : Int) < (n : Int) + 1 + (more.size : Int)) = false := by simp; omega
      have hcat : Sv.face (text.extract 0 (n + 1) ++ more).data.toList = ([], n, 1) := unhide HC3 hle _ (by rw [ByteArray.data_append, Array.toList_append, take_list _ _ (by omega)])
      have HC4 := hide hcat
      clear hcat HC3
      go_wp2_with fail
      refine (facec_w _ _ (unhide HC4) aT aL w5 hL5 hP5 (by unfold maxLen; rw [ByteArray.size_append, hex]; omega)).mono ?_
      rintro e w6 ⟨rfl, hL6, hP6, hg6⟩
      have hg16 := gr_trans hg15 hg6
      clear HC4 hL5 hP5 hg15 hg6 hL6 hP6
      simp only
      go_wp2
      go_ret
      exact ⟨rfl, hg16⟩
    · have e4 : decide ((400 : Int) < (n : Int) + 1 + (more.size : Int)) = true := by simp; omega
      clear HC3
      go_wp2_with fail
      go_ret
      exact ⟨rfl, hg15⟩

theorem stopped_w (text more : ByteArray) (aT aL : Addr) (w : World) (hL : LD aT aL w) (hP : 3 < w.heap.size) (h1 : text.size ≤ maxLen) (h2 : more.size ≤ 140737488355328) :
    Calls Tryd.prog 3 #[.string text, .string more] w fun e w' => e = .returned (.bool true) ∧ w.grownBy w' none := by
  rcases Sv.face_cases text.data.toList with h | h | ⟨h, hr, hl⟩
  · exact stopped_no text more aT aL w hL hP h1 _ _ _ rfl (.inl h)
  · exact stopped_no text more aT aL w hL hP h1 _ _ _ rfl (.inr (.inl h))
  · by_cases hn : (Sv.face text.data.toList).2.1 < text.size
    · exact stopped_yes text more aT aL w hL hP h2 _ hr (by simpa using hl) hn
    · exact stopped_no text more aT aL w hL hP h1 _ _ _ rfl (.inr (.inr ⟨h, Nat.le_of_not_lt hn⟩))

end Go.Proofs.YtolhbeekfjnfmaaDoor

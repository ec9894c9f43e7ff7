/- The document's writer: numbers. -/
import Derived.Test.YtolhbeekfjnfmaaGreatDoorVf
namespace Go.Proofs.YtolhbeekfjnfmaaGreatDoor
open Go.RowKit

theorem one_byteN (w : World) (c : UInt8) (z : Int) (hz : z = c.toNat) : Sem.run Tryz.prog (convert 123 9 (.slice (some ⟨w.heap.size, 0, none⟩) 1 1)) (w.alloc (.cells #[.int .u8 z] 5)) = .ok (.string ⟨#[c]⟩) (w.alloc (.cells #[.int .u8 z] 5)) := by
  subst hz
  exact one_byte w c

set_option maxRecDepth 100000 in
set_option maxHeartbeats 1000000 in
theorem digits_nat (n : Nat) (hn : n ≤ 1000000000) (w : World) :
    Calls Tryz.prog 79 #[.int .i64 n] w fun e w' => e = .returned (.string ⟨(Lib.decDigits n).toArray⟩) ∧ w.grownBy w' none := by
  induction n using Nat.strongRecOn generalizing w with
  | _ n ih =>
    have e0 : decide ((n : Int) < 0) = false := by simp
    obtain ⟨d, hd⟩ : ∃ d, n % 10 = d := ⟨_, rfl⟩
    have hd9 : d < 10 := by omega
    have hrem : ((n : Int) % 10) = (d : Int) := by omega
    have hrem2 : ((n : Int).tmod 10) = (d : Int) := by rw [Int.tmod_eq_emod_of_nonneg (by omega)]; exact hrem
    obtain ⟨c, hcc⟩ : ∃ c : UInt8, UInt8.ofNat (48 + d) = c := ⟨_, rfl⟩
    have hc : ((c.toNat : Nat) : Int) = 48 + (d : Int) := by
      rw [← hcc, UInt8.toNat_ofNat']; omega
    have hcv := one_byteN w c (48 + (d : Int)) hc.symm
    by_cases h10 : n < 10
    · have e1 : decide ((n : Int) < 10) = true := by simp; omega
      have ed : Lib.decDigits n = [c] := by rw [Lib.decDigits, dif_pos h10, ← hcc]; rw [show d = n from by omega]
      rw [ed]
      clear ih hc hcc ed
      go_enter Tryz.func79, Tryz.ntmps79
      go_wp2
      go_ret
      exact ⟨rfl, World.grownBy_alloc w _ none⟩
    · have e1 : decide ((n : Int) < 10) = false := by simp; omega
      have ed : Lib.decDigits n = Lib.decDigits (n / 10) ++ [c] := by rw [Lib.decDigits, dif_neg h10, hd, hcc]
      rw [ed]
      have hq : (n : Int).tdiv 10 = ((n / 10 : Nat) : Int) := by rw [Int.tdiv_eq_ediv_of_nonneg (by omega)]; omega
      have hq2 : (n : Int) / 10 = ((n / 10 : Nat) : Int) := by omega
      have ihq := fun w => ih (n / 10) (by omega) (by omega) w
      rw [← hq2] at ihq
      have hL := Lib.itoa_length_le ((n / 10 : Nat) : Int) (by omega) (by omega)
      rw [Lib.itoa_nonneg] at hL
      generalize Lib.decDigits (n / 10) = L at ihq hL ⊢
      clear ih hc hcc ed hq2
      go_enter Tryz.func79, Tryz.ntmps79
      go_wp2_with fail
      refine (ihq _).mono ?_
      rintro e w2 ⟨rfl, hg2⟩
      have hg := gr_trans (World.grownBy_alloc w (.cells #[.int .u8 (48 + (d : Int))] 5) none) hg2
      obtain ⟨t, ht⟩ : ∃ t : ByteArray, t = ⟨L.toArray⟩ := ⟨_, rfl⟩
      rw [← ht]
      have hts : t.size ≤ 21 := by rw [ht, size_of]; exact hL
      have HT := hide ht
      clear ht hL ihq
      go_wp2
      go_ret
      exact ⟨by rw [unhide HT, ← ba_app]; rfl, hg⟩

set_option maxRecDepth 100000 in
set_option maxHeartbeats 1000000 in
theorem digits_w (z : Int) (h1 : -1000000000 ≤ z) (h2 : z ≤ 1000000000) (w : World) :
    Calls Tryz.prog 79 #[.int .i64 z] w fun e w' => e = .returned (.string ⟨(Lib.itoa z).toArray⟩) ∧ w.grownBy w' none := by
  by_cases hz : z < 0
  · obtain ⟨n, rfl⟩ : ∃ n : Nat, z = -(n : Int) := ⟨z.natAbs, by omega⟩
    have hn1 : 1 ≤ n := by omega
    rw [Lib.itoa_neg n hn1]
    have e0 : decide (-(n : Int) < 0) = true := by simp; omega
    have hd := fun w => digits_nat n (by omega) w
    have hL := Lib.itoa_length_le (n : Int) (by omega) (by omega)
    rw [Lib.itoa_nonneg] at hL
    generalize Lib.decDigits n = L at hd hL ⊢
    go_enter Tryz.func79, Tryz.ntmps79
    go_wp2_with fail
    refine (hd _).mono ?_
    rintro e w2 ⟨rfl, hg2⟩
    obtain ⟨t, ht⟩ : ∃ t : ByteArray, t = ⟨L.toArray⟩ := ⟨_, rfl⟩
    rw [← ht]
    have hts : t.size ≤ 21 := by rw [ht, size_of]; exact hL
    have HT := hide ht
    clear ht hL hd
    go_wp2
    go_ret
    exact ⟨by rw [unhide HT, show (45 :: L) = [45] ++ L from rfl, ← ba_app]; rfl, hg2⟩
  · obtain ⟨n, rfl⟩ : ∃ n : Nat, z = (n : Int) := ⟨z.toNat, by omega⟩
    rw [Lib.itoa_nonneg]
    exact digits_nat n (by omega) w

end Go.Proofs.YtolhbeekfjnfmaaGreatDoor

/- The law's steps. -/
import Derived.Test.YtolhbeekfjnfmaaGreatDoorVj
namespace Go.Proofs.YtolhbeekfjnfmaaGreatDoor
open Go.RowKit

set_option maxRecDepth 100000 in
set_option maxHeartbeats 1000000 in
theorem step_plain (W : Nat) (w : World) (aT aL : Addr) (hL : LD aT aL w) (hP : 3 < w.heap.size) (s : ByteArray) (hm : s.size ≤ maxLen) (n fk a : Int) (fao : Option Addr) (fn fc : Nat) :
    Calls Tryz.prog 33 #[.pointer (some ⟨W, 0, none⟩), .agg #[.int .i64 1, .int .i64 n, .string s, .int .i64 fk, .slice fao fn fc, .int .i64 a]] w fun e w' => e = .returned (.bool true) ∧ w.grownBy w' none := by
  have hgA := World.grownBy_alloc w (.cells #[.int .i64 1, .int .i64 n, .string s, .int .i64 fk, .slice fao fn fc, .int .i64 a] 76) none
  have hLA := hL.kept hgA hP
  have hcS : (w.alloc (.cells #[.int .i64 1, .int .i64 n, .string s, .int .i64 fk, .slice fao fn fc, .int .i64 a] 76)).cell? ⟨w.heap.size, 2, none⟩ = some (.string s) := by simp
  go_enter Tryz.func33, Tryz.ntmps33
  go_wp2_with fail
  refine (face_w s aT aL _ hLA (by have := hgA.size; omega) hm).mono ?_
  rintro e w1 ⟨rfl, hg1⟩
  have c2 := hg1.cell hcS (by simp)
  obtain ⟨F, hF⟩ : ∃ F, Sv.face s.data.toList = F := ⟨_, rfl⟩
  have hvf := fun w => vface_w s w hm
  rw [hF] at hvf ⊢
  clear hF
  obtain ⟨l, m, k⟩ := F
  obtain ⟨t, ht⟩ : ∃ t : ByteArray, (⟨l.toArray⟩ : ByteArray) = t := ⟨_, rfl⟩
  simp only at hvf ⊢
  rw [ht] at hvf ⊢
  clear ht
  go_wp2_with fail
  refine (hvf _).mono ?_
  rintro e w2 ⟨rfl, hg2⟩
  have hg := gr_trans hgA (gr_trans hg1 hg2)
  go_wp2_with (go_at_call 51; refine (num_w _ _).mono ?_; rintro e w3 ⟨rfl, rfl⟩)
  go_ret
  exact ⟨rfl, hg⟩

set_option maxRecDepth 100000 in
set_option maxHeartbeats 1000000 in
theorem step_none (W : Nat) (w : World) (hW : NoWorld W w) (s : ByteArray) (q n fk a : Int) (hq : q ≤ 0) (fao : Option Addr) (fn fc : Nat) :
    Calls Tryz.prog 33 #[.pointer (some ⟨W, 0, none⟩), .agg #[.int .i64 q, .int .i64 n, .string s, .int .i64 fk, .slice fao fn fc, .int .i64 a]] w fun e w' => e = .returned (.bool true) ∧ w.grownBy w' none := by
  have hgA := World.grownBy_alloc w (.cells #[.int .i64 q, .int .i64 n, .string s, .int .i64 fk, .slice fao fn fc, .int .i64 a] 76) none
  have c0 := (hW.kept hgA).c 0 (by omega)
  have e1 : (q == 1) = false := by simp; omega
  have e2 : (q == 2) = false := by simp; omega
  go_enter Tryz.func33, Tryz.ntmps33
  go_wp2
  go_ret
  exact ⟨rfl, hgA⟩

/-- A step of a script lies in memory. -/
def OpAt (g o : Nat) (q n : Int) (s : ByteArray) (fk : Int) (fv : Value) (a : Int) (w : World) : Prop :=
  w.cell? ⟨g, o, none⟩ = some (.int .i64 q) ∧ w.cell? ⟨g, o + 1, none⟩ = some (.int .i64 n) ∧ w.cell? ⟨g, o + 2, none⟩ = some (.string s) ∧ w.cell? ⟨g, o + 3, none⟩ = some (.int .i64 fk) ∧ w.cell? ⟨g, o + 4, none⟩ = some fv ∧ w.cell? ⟨g, o + 5, none⟩ = some (.int .i64 a)
theorem OpAt.kept {g o : Nat} {q n : Int} {s : ByteArray} {fk : Int} {fv : Value} {a : Int} {w w' : World} (h : OpAt g o q n s fk fv a w) (hg : w.grownBy w' none) : OpAt g o q n s fk fv a w' := by
  obtain ⟨h0, h1, h2, h3, h4, h5⟩ := h
  exact ⟨hg.cell h0 (by simp), hg.cell h1 (by simp), hg.cell h2 (by simp), hg.cell h3 (by simp), hg.cell h4 (by simp), hg.cell h5 (by simp)⟩
/-- Where a script's steps lie. -/
def OpsAt (ao : Option Addr) (len : Nat) (w : World) : Prop :=
  ∀ k, k < len → ∃ (g off : Nat) (q n : Int) (s : ByteArray) (fk : Int) (fao : Option Addr) (fn fc : Nat) (a : Int), ao = some ⟨g, off, none⟩ ∧ s.size ≤ maxLen ∧ OpAt g (off + k * 6) q n s fk (.slice fao fn fc) a w

set_option maxRecDepth 100000 in
set_option maxHeartbeats 1000000 in
theorem played_w (w : World) (aT aL : Addr) (hL : LD aT aL w) (hP : 3 < w.heap.size) (ao : Option Addr) (len cap : Nat) (hlen : len ≤ 9223372036854775807)
    (hops : OpsAt ao len w) :
    Calls Tryz.prog 14 #[.slice ao len cap, .int .i64 1] w fun e w' => e = .returned (.bool true) ∧ w.grownBy w' none := by
  have hgA := World.grownBy_alloc w (.cells #[.slice none 0 0, .slice none 0 0, .slice none 0 0, .slice none 0 0, .slice none 0 0, .slice none 0 0, .slice none 0 0, .slice none 0 0] 73) none
  have hW0 : NoWorld w.heap.size (w.alloc (.cells #[.slice none 0 0, .slice none 0 0, .slice none 0 0, .slice none 0 0, .slice none 0 0, .slice none 0 0, .slice none 0 0, .slice none 0 0] 73)) := heap_alloc_new _ _
  have hLA := hL.kept hgA hP
  have HO := hide hops
  clear hops
  go_enter Tryz.func14, Tryz.ntmps14
  go_wp2_with fail
  refine (step_plain _ _ aT aL hLA (by have := hgA.size; omega) _ (by decide) _ _ _ _ _ _).mono ?_
  rintro e w1 ⟨rfl, hg1⟩
  have hg01 := gr_trans hgA hg1
  have hW1 := hW0.kept hg1
  have hL1 := hLA.kept hg1 (by have := hgA.size; omega)
  clear hgA hW0 hLA hg1
  go_wp2
  go_loopw [6, 7] (fun x y w' => ∃ k : Nat, k ≤ len ∧ x = .bool true ∧ y = .int .i64 k ∧ w.grownBy w' none ∧ NoWorld w.heap.size w' ∧ LD aT aL w') (fun _ y _ => len - (intOf y).toNat)
  case atStart => exact ⟨0, Nat.zero_le _, rfl, rfl, hg01, hW1, hL1⟩
  case round =>
    clear hg01 hW1 hL1
    obtain ⟨k, hk, rfl, rfl, hg, hW, hLw⟩ := hrel
    have hPw : 3 < wr.heap.size := by have := hg.size; omega
    by_cases hlt : k < len
    · have hd : decide (k < len) = true := by simpa using hlt
      obtain ⟨g, off, q, n, s, fk, fao, fn, fc, a, rfl, hsz, hop⟩ := unhide HO k hlt
      obtain ⟨h0, h1, h2, h3, h4, h5⟩ := hop.kept hg
      by_cases hq : q ≤ 1
      · have hdq : decide (q ≤ 1) = true := by simpa using hq
        have hst : Calls Tryz.prog 33 #[.pointer (some ⟨w.heap.size, 0, none⟩), .agg #[.int .i64 q, .int .i64 n, .string s, .int .i64 fk, .slice fao fn fc, .int .i64 a]] wr fun e w' => e = .returned (.bool true) ∧ wr.grownBy w' none := by
          by_cases hq1 : q = 1
          · subst hq1
            exact step_plain _ wr aT aL hLw hPw s hsz n fk a fao fn fc
          · exact step_none _ wr hW s q n fk a (by omega) fao fn fc
        clear hq hop
        go_wp2_with fail
        refine hst.mono ?_
        rintro e w2 ⟨rfl, hg2⟩
        have hW2 := hW.kept hg2
        have hL2 := hLw.kept hg2 hPw
        have hg02 := gr_trans hg hg2
        clear hst
        go_wp2_with (go_at_call 34; refine (looks_w _ _ hW2).mono ?_; rintro e w3 ⟨rfl, rfl⟩)
        go_roundw
        case rel => exact ⟨k + 1, by omega, rfl, by go_num, hg02, hW2, hL2⟩
        case measure => simp [intOf]; omega
      · have hdq : decide (q ≤ 1) = false := by simpa using hq
        clear hop
        go_wp2_with (go_at_call 34; refine (looks_w _ _ hW).mono ?_; rintro e w3 ⟨rfl, rfl⟩)
        go_roundw
        case rel => exact ⟨k + 1, by omega, rfl, by go_num, hg, hW, hLw⟩
        case measure => simp [intOf]; omega
    · have hd : decide (k < len) = false := by simpa using hlt
      go_wp2
      go_ret
      exact ⟨rfl, hg⟩

set_option maxHeartbeats 400000 in
theorem texts_w (w : World) (aT aL : Addr) (hL : LD aT aL w) (hP : 3 < w.heap.size) (ao : Option Addr) (len cap : Nat) (hlen : len ≤ 9223372036854775807)
    (hops : OpsAt ao len w) :
    Calls Tryz.prog 3 #[.slice ao len cap] w fun e w' => e = .returned (.bool true) ∧ w.grownBy w' none := by
  have hp := played_w w aT aL hL hP ao len cap hlen hops
  clear hops
  go_enter Tryz.func3, Tryz.ntmps3
  go_wp2_with fail
  refine hp.mono ?_
  rintro e w1 ⟨rfl, hg⟩
  go_wp2
  go_ret
  exact ⟨rfl, hg⟩

end Go.Proofs.YtolhbeekfjnfmaaGreatDoor

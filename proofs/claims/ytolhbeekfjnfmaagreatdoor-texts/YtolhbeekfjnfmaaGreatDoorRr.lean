/- How a script lies in memory. -/
import Derived.Test.YtolhbeekfjnfmaaGreatDoorVk
import Derived.ProofKit
import Derived.Deep.Slices
namespace Go.Proofs.YtolhbeekfjnfmaaGreatDoor
open Go.RowKit

theorem add_none (g o i j : Nat) : ((⟨g, o, none⟩ : Addr).add i).add j = ⟨g, o + i + j, none⟩ := by
  unfold Addr.add
  by_cases h1 : i = 0
  · by_cases h2 : j = 0
    · simp [h1, h2]
    · simp [h1, h2]
  · by_cases h2 : j = 0
    · simp [h1, h2]
    · simp [h1, h2]
theorem spot_none (w : World) (a : Addr) (v : Value) (h : w.cell? a = some v) : a.spot = none := by
  unfold World.cell? at h
  split at h
  · split at h
    · cases h
    · rename_i hs
      simpa using hs
  · cases h
theorem Tryz.cellsOp : Tryz.prog.cellsOf 76 = 6 := by kernel_rfl
theorem Tryz.cellsInt : Tryz.prog.cellsOf 3 = 1 := by kernel_rfl
theorem Tryz.cellsStr : Tryz.prog.cellsOf 9 = 1 := by kernel_rfl
theorem Tryz.cellsFact : Tryz.prog.cellsOf 37 = 2 := by kernel_rfl
theorem Tryz.cellsInts : Tryz.prog.cellsOf 35 = 1 := by kernel_rfl

set_option maxRecDepth 100000 in
/-- A step, off its six cells. -/
theorem op_open {H : Type} {enc : TypeId × Value → H} {w : World} {spare : Nat → Bool} {held : Bool} {n : Nat} {cs : List Value} {x : DataW H × List MemPlace} (h : DataW.trod enc Tryz.prog w 0 spare held n 76 cs = some x) :
    ∃ (q m : Int) (s : ByteArray) (fk : Int) (fao : Option Addr) (fn fc : Nat) (a : Int), cs = [.int .i64 q, .int .i64 m, .string s, .int .i64 fk, .slice fao fn fc, .int .i64 a] ∧ s.size ≤ maxLen := by
  obtain ⟨xs, n1, _, _, hl, hlen, hf⟩ := DataW.trod_struct Tryz.underlying76 h
  rw [Tryz.cellsOp] at hl
  match cs, hl with
  | [c0, c1, c2, c3, c4, c5], _ =>
    match xs, hlen with
    | [y0, y1, y2, y3, y4], _ =>
      have g0 : DataW.trod enc Tryz.prog w 0 spare held n1 3 ((([c0, c1, c2, c3, c4, c5] : List Value).drop 0).take (Tryz.prog.cellsOf 3)) = some y0 := hf 0 _ rfl
      have g1 : DataW.trod enc Tryz.prog w 0 spare held n1 3 ((([c0, c1, c2, c3, c4, c5] : List Value).drop 1).take (Tryz.prog.cellsOf 3)) = some y1 := hf 1 _ rfl
      have g2 : DataW.trod enc Tryz.prog w 0 spare held n1 9 ((([c0, c1, c2, c3, c4, c5] : List Value).drop 2).take (Tryz.prog.cellsOf 9)) = some y2 := hf 2 _ rfl
      have g3 : DataW.trod enc Tryz.prog w 0 spare held n1 37 ((([c0, c1, c2, c3, c4, c5] : List Value).drop 3).take (Tryz.prog.cellsOf 37)) = some y3 := hf 3 _ rfl
      have g4 : DataW.trod enc Tryz.prog w 0 spare held n1 3 ((([c0, c1, c2, c3, c4, c5] : List Value).drop 5).take (Tryz.prog.cellsOf 3)) = some y4 := hf 4 _ rfl
      rw [Tryz.cellsInt] at g0 g1 g4
      rw [Tryz.cellsStr] at g2
      rw [Tryz.cellsFact] at g3
      obtain ⟨q, hq, _⟩ := DataW.trod_int Tryz.underlying3 g0
      obtain ⟨m, hm, _⟩ := DataW.trod_int Tryz.underlying3 g1
      obtain ⟨s, hs, _, hsz⟩ := DataW.trod_string Tryz.underlying9 g2
      obtain ⟨a, ha, _⟩ := DataW.trod_int Tryz.underlying3 g4
      obtain ⟨ys, n2, _, _, hl2, hlen2, hf2⟩ := DataW.trod_struct Tryz.underlying37 g3
      match ys, hlen2 with
      | [z0, z1], _ =>
        have k0 : DataW.trod enc Tryz.prog w 0 spare held n2 3 (((([c0, c1, c2, c3, c4, c5] : List Value).drop 3).take 2).drop 0 |>.take (Tryz.prog.cellsOf 3)) = some z0 := hf2 0 _ rfl
        have k1 : DataW.trod enc Tryz.prog w 0 spare held n2 35 (((([c0, c1, c2, c3, c4, c5] : List Value).drop 3).take 2).drop 1 |>.take (Tryz.prog.cellsOf 35)) = some z1 := hf2 1 _ rfl
        rw [Tryz.cellsInt] at k0
        rw [Tryz.cellsInts] at k1
        obtain ⟨fk, hk, _⟩ := DataW.trod_int Tryz.underlying3 k0
        have hc4 : ∃ (fao : Option Addr) (fn fc : Nat), c4 = .slice fao fn fc := by
          rcases DataW.trod_slice Tryz.underlying35 k1 with ⟨h1, _⟩ | ⟨a, len, cap, _, _, _, _, h1, _⟩
          · exact ⟨_, _, _, by simpa using h1⟩
          · exact ⟨_, _, _, by simpa using h1⟩
        obtain ⟨fao, fn, fc, rfl⟩ := hc4
        simp at hq hm hs ha hk
        subst hq hm hs ha hk
        exact ⟨_, _, _, _, _, _, _, _, rfl, hsz⟩

theorem ops_open {H : Type} {enc : TypeId × Value → H} {w : World} {spare : Nat → Bool} {held : Bool} {fuel : Nat} {cs : List Value} {x : DataW H × List MemPlace} (h : DataW.trod enc Tryz.prog w 0 spare held fuel 22 cs = some x) :
    ∃ ao len cap, cs = [.slice ao len cap] ∧ OpsAt ao len w ∧ len ≤ maxLen := by
  rcases Go.Deep.open_slice Tryz.underlying22 h with ⟨rfl, _⟩ | ⟨a, len, cap, m, n, D, Pl, rfl, _, hle, hcap, hm, _, hel⟩
  · exact ⟨none, 0, 0, rfl, fun k hk => by omega, Nat.zero_le _⟩
  · refine ⟨some a, len, cap, rfl, ?_, by omega⟩
    have hml : len ≤ m := by rw [hm]; split <;> omega
    have key : ∀ i, i < len → ∃ (q n : Int) (s : ByteArray) (fk : Int) (fao : Option Addr) (fn fc : Nat) (z : Int), s.size ≤ maxLen ∧ ∀ j, j < 6 → w.cell? ((a.add (i * 6)).add j) = ([.int .i64 q, .int .i64 n, .string s, .int .i64 fk, .slice fao fn fc, .int .i64 z] : List Value)[j]? := by
      intro i hi
      obtain ⟨cs', h1, h2⟩ := hel i (by omega)
      obtain ⟨q, m2, s, fk, fao, fn, fc, z, rfl, hsz⟩ := op_open h2
      rw [Tryz.cellsOp] at h1
      unfold World.cells? at h1
      rw [if_pos (Nat.zero_le _)] at h1
      refine ⟨q, m2, s, fk, fao, fn, fc, z, hsz, fun j hj => ?_⟩
      exact mapM_some_get h1 j j (by simp [hj])
    intro k hk
    obtain ⟨_, _, _, _, _, _, _, _, _, h0⟩ := key 0 (by omega)
    have h00 := h0 0 (by omega)
    have hsp := spot_none w _ _ h00
    have hsp2 : a.spot = none := by simpa [Addr.add] using hsp
    obtain ⟨g, off, sp⟩ := a
    simp only at hsp2
    subst hsp2
    obtain ⟨q, n, s, fk, fao, fn, fc, z, hsz, hc⟩ := key k hk
    refine ⟨g, off, q, n, s, fk, fao, fn, fc, z, rfl, hsz, ?_⟩
    have hc' := fun j hj => by have := hc j hj; rw [add_none] at this; exact this
    exact ⟨hc' 0 (by omega), hc' 1 (by omega), hc' 2 (by omega), hc' 3 (by omega), hc' 4 (by omega), hc' 5 (by omega)⟩

end Go.Proofs.YtolhbeekfjnfmaaGreatDoor

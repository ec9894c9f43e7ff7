/- How the reader lies in memory, and the first walks. -/
import Derived.Test.YtolhbeekfjnfmaaGreatDoorChecked
import Derived.Test.YtolhbeekfjnfmaaGreatDoorPure
import Derived.WalkKit
import Derived.WalkSpells
import Derived.WalkLawsBesides
import Derived.BigQuiet
import Derived.Deep.QuietTactic
namespace Go.Proofs.YtolhbeekfjnfmaaGreatDoor
open Go.RowKit

/-- The reader lies at block b: its text, its place, its excess. -/
def PAt (b : Nat) (s : ByteArray) (i : Nat) (v : Value) (w : World) : Prop := w.heap[b]? = some (.cells #[.string s, .int .i64 i, v] 117 (0, 0))

theorem PAt.c0 {b : Nat} {s : ByteArray} {i : Nat} {v : Value} {w : World} (h : PAt b s i v w) : w.cell? ⟨b, 0, none⟩ = some (.string s) := by
  unfold PAt at h; simp [World.cell?, h]
theorem PAt.c1 {b : Nat} {s : ByteArray} {i : Nat} {v : Value} {w : World} (h : PAt b s i v w) : w.cell? ⟨b, 1, none⟩ = some (.int .i64 i) := by
  unfold PAt at h; simp [World.cell?, h]
theorem PAt.c2 {b : Nat} {s : ByteArray} {i : Nat} {v : Value} {w : World} (h : PAt b s i v w) : w.cell? ⟨b, 2, none⟩ = some v := by
  unfold PAt at h; simp [World.cell?, h]
theorem PAt.fz {b : Nat} {s : ByteArray} {i : Nat} {v : Value} {w : World} (h : PAt b s i v w) (o : Nat) : w.frozen? ⟨b, o, none⟩ = false := by
  unfold PAt at h; simp [World.frozen?, h]
theorem PAt.lt {b : Nat} {s : ByteArray} {i : Nat} {v : Value} {w : World} (h : PAt b s i v w) : b < w.heap.size := by
  unfold PAt at h; exact (Array.getElem?_eq_some_iff.1 h).1

theorem size_list (s : ByteArray) : s.data.toList.length = s.size := by simp
theorem pk_get (s : ByteArray) (i : Nat) (h : i < s.size) : Sv.pk s.data.toList i = s[i] := by
  rw [Sv.pk_at _ _ (by simpa using h)]; rfl

set_option maxHeartbeats 400000 in
theorem isLetter_w (c : UInt8) (w : World) :
    Calls Tryz.prog 153 #[.int .u8 c.toNat] w fun e w' => e = .returned (.bool (Sv.letB c)) ∧ w' = w := by
  unfold Sv.letB
  by_cases h1 : 97 ≤ c.toNat
  · by_cases h2 : c.toNat ≤ 122
    · have e1 : decide ((97 : Int) ≤ c.toNat) = true := by simp; omega
      have e2 : decide ((c.toNat : Int) ≤ 122) = true := by simp; omega
      go_enter Tryz.func153, Tryz.ntmps153
      go_wp2
      go_ret
      exact ⟨by simp [h1, h2], rfl⟩
    · have e1 : decide ((97 : Int) ≤ c.toNat) = true := by simp; omega
      have e2 : decide ((c.toNat : Int) ≤ 122) = false := by simp; omega
      go_enter Tryz.func153, Tryz.ntmps153
      go_wp2
      go_ret
      exact ⟨by simp [h2], rfl⟩
  · have e1 : decide ((97 : Int) ≤ c.toNat) = false := by simp; omega
    go_enter Tryz.func153, Tryz.ntmps153
    go_wp2
    go_ret
    exact ⟨by simp [h1], rfl⟩

set_option maxHeartbeats 400000 in
theorem isDigit_w (c : UInt8) (w : World) :
    Calls Tryz.prog 198 #[.int .u8 c.toNat] w fun e w' => e = .returned (.bool (Sv.digB c)) ∧ w' = w := by
  unfold Sv.digB
  by_cases h1 : 48 ≤ c.toNat
  · by_cases h2 : c.toNat ≤ 57
    · have e1 : decide ((48 : Int) ≤ c.toNat) = true := by simp; omega
      have e2 : decide ((c.toNat : Int) ≤ 57) = true := by simp; omega
      go_enter Tryz.func198, Tryz.ntmps198
      go_wp2
      go_ret
      exact ⟨by simp [h1, h2], rfl⟩
    · have e1 : decide ((48 : Int) ≤ c.toNat) = true := by simp; omega
      have e2 : decide ((c.toNat : Int) ≤ 57) = false := by simp; omega
      go_enter Tryz.func198, Tryz.ntmps198
      go_wp2
      go_ret
      exact ⟨by simp [h2], rfl⟩
  · have e1 : decide ((48 : Int) ≤ c.toNat) = false := by simp; omega
    go_enter Tryz.func198, Tryz.ntmps198
    go_wp2
    go_ret
    exact ⟨by simp [h1], rfl⟩

set_option maxHeartbeats 400000 in
theorem peek_w (b : Nat) (s : ByteArray) (i : Nat) (v : Value) (w : World) (hi : i ≤ s.size) (_hs : s.size ≤ 400) (hb : PAt b s i v w) :
    Calls Tryz.prog 124 #[.pointer (some ⟨b, 0, none⟩)] w fun e w' => e = .returned (.int .u8 (Sv.pk s.data.toList i).toNat) ∧ ∃ n, w' = w.drewN n := by
  have c0 := hb.c0
  have c1 := hb.c1
  by_cases h : i = s.size
  · have e : ((i : Int) == (s.size : Int)) = true := by simp; omega
    go_enter Tryz.func124, Tryz.ntmps124
    go_wp2
    go_quiet (fail)
    go_wp2
    go_ret
    exact ⟨by rw [Sv.pk_end _ _ (by simp; omega)]; rfl, _, rfl⟩
  · have e : ((i : Int) == (s.size : Int)) = false := by simp; omega
    have hlt : i < s.size := by omega
    go_enter Tryz.func124, Tryz.ntmps124
    go_wp2
    go_quiet (fail)
    go_wp2
    go_quiet (fail)
    go_wp2
    go_ret
    exact ⟨by rw [pk_get _ _ hlt]; rfl, _, World.drewN_drewN _ _ _⟩


/-- A fault lies at block f: its place, what it is. -/
def FAt (f : Nat) (i : Nat) (e : Value) (w : World) : Prop := w.heap[f]? = some (.cells #[.int .i64 i, e] 114 (0, 0))

theorem FAt.c0 {f i : Nat} {e : Value} {w : World} (h : FAt f i e w) : w.cell? ⟨f, 0, none⟩ = some (.int .i64 i) := by
  unfold FAt at h; simp [World.cell?, h]
theorem FAt.c1 {f i : Nat} {e : Value} {w : World} (h : FAt f i e w) : w.cell? ⟨f, 1, none⟩ = some e := by
  unfold FAt at h; simp [World.cell?, h]
theorem FAt.lt {f i : Nat} {e : Value} {w : World} (h : FAt f i e w) : f < w.heap.size := by
  unfold FAt at h; exact (Array.getElem?_eq_some_iff.1 h).1
theorem FAt.kept {f i : Nat} {e : Value} {w w' : World} {row : Option Nat} (h : FAt f i e w) (g : w.grownBy w' row) (hne : some f ≠ row) : FAt f i e w' := by
  unfold FAt; rw [g.block f h.lt hne]; exact h

theorem PAt.kept {b : Nat} {s : ByteArray} {i : Nat} {v : Value} {w w' : World} {row : Option Nat} (h : PAt b s i v w) (g : w.grownBy w' row) (hne : some b ≠ row) : PAt b s i v w' := by
  unfold PAt; rw [g.block b h.lt hne]; exact h
theorem PAt.set1 {b : Nat} {s : ByteArray} {i : Nat} {v : Value} {w : World} (h : PAt b s i v w) (j : Nat) : PAt b s j v (w.setCell ⟨b, 1, none⟩ (.int .i64 j)) := by
  unfold PAt at h ⊢; rw [heap_setCell_same w b 1 _ _ _ h]; rfl
theorem PAt.set2 {b : Nat} {s : ByteArray} {i : Nat} {v : Value} {w : World} (h : PAt b s i v w) (u : Value) : PAt b s i u (w.setCell ⟨b, 2, none⟩ u) := by
  unfold PAt at h ⊢; rw [heap_setCell_same w b 2 _ _ _ h]; rfl
theorem PAt.drewN {b : Nat} {s : ByteArray} {i : Nat} {v : Value} {w : World} (h : PAt b s i v w) (n : Nat) : PAt b s i v (w.drewN n) := h

theorem gr_trans {a b c : World} {row : Option Nat} (h : a.grownBy b row) (k : b.grownBy c row) : a.grownBy c row :=
  ⟨k.os.trans h.os, k.tape.trans h.tape, k.output.trans h.output, Nat.le_trans h.size k.size, fun i hi hne => (k.block i (Nat.lt_of_lt_of_le hi h.size) hne).trans (h.block i hi hne)⟩
theorem gr_any {a c : World} (h : a.grownBy c none) (row : Option Nat) : a.grownBy c row := ⟨h.os, h.tape, h.output, h.size, fun i hi _ => h.block i hi (by simp)⟩
theorem gr_set (w : World) (b o : Nat) (u : Value) : w.grownBy (w.setCell ⟨b, o, none⟩ u) (some b) :=
  ⟨rfl, rfl, rfl, by simp [World.setCell], fun k _ hk => heap_setCell_other w ⟨b, o, none⟩ k u (fun e => hk (by simp [e]))⟩
theorem gr_drewN (w : World) (n : Nat) (row : Option Nat) : w.grownBy (w.drewN n) row := ⟨rfl, rfl, rfl, Nat.le_refl _, fun _ _ _ => rfl⟩

theorem gr_drew {a c : World} {row : Option Nat} (h : a.grownBy c row) : a.grownBy c.drew row := ⟨h.os, h.tape, h.output, h.size, h.block⟩

theorem cell_al (w : World) (o : Obj) (b k : Nat) (h : b < w.heap.size) : (w.alloc o).cell? ⟨b, k, none⟩ = w.cell? ⟨b, k, none⟩ := World.cell?_of_block (a := ⟨b, k, none⟩) (Below.heap_alloc w o b h)
theorem frozen_al (w : World) (o : Obj) (b k : Nat) (h : b < w.heap.size) : (w.alloc o).frozen? ⟨b, k, none⟩ = w.frozen? ⟨b, k, none⟩ := World.frozen?_of_block (a := ⟨b, k, none⟩) (Below.heap_alloc w o b h)

/-- What the reader's place is, off the world. -/
def atOf (b : Nat) (w : World) : Nat := match w.cell? ⟨b, 1, none⟩ with | some (.int _ q) => q.toNat | _ => 0
theorem PAt.at {b : Nat} {s : ByteArray} {i : Nat} {v : Value} {w : World} (h : PAt b s i v w) : atOf b w = i := by
  unfold atOf; rw [h.c1]; simp

/-- What the reader leans on: the two errors of the package, which lie elsewhere. -/
structure GOk (b : Nat) (eT eL : Value) (w : World) : Prop where
  nT : b ≠ 2
  nL : b ≠ 0
  cT : w.cell? ⟨2, 0, none⟩ = some eT
  cL : w.cell? ⟨0, 0, none⟩ = some eL
theorem GOk.kept {b : Nat} {eT eL : Value} {w w' : World} (h : GOk b eT eL w) (g : w.grownBy w' (some b)) : GOk b eT eL w' :=
  ⟨h.nT, h.nL, g.cell h.cT (by simpa using fun e => h.nT e.symm), g.cell h.cL (by simpa using fun e => h.nL e.symm)⟩

theorem GOk.drewN {b : Nat} {eT eL : Value} {w : World} (h : GOk b eT eL w) (n : Nat) : GOk b eT eL (w.drewN n) := ⟨h.nT, h.nL, h.cT, h.cL⟩

set_option maxHeartbeats 400000 in
theorem wrong_w (b : Nat) (s : ByteArray) (i : Nat) (v : Value) (w : World) (tT : TypeId) (aT : Addr) (hb : PAt b s i v w) (hT : w.cell? ⟨2, 0, none⟩ = some (.iface tT (.pointer (some aT)))) :
    Calls Tryz.prog 154 #[.pointer (some ⟨b, 0, none⟩)] w fun e w' => ∃ f, e = .returned (.iface 112 (.pointer (some ⟨f, 0, none⟩))) ∧ w.heap.size ≤ f ∧ FAt f i (.iface tT (.pointer (some aT))) w' ∧ w.grownBy w' none := by
  have c1 := hb.c1
  go_enter Tryz.func154, Tryz.ntmps154
  go_wp2
  go_region
  all_goals
    go_wp2
    go_ret
    exact ⟨w.heap.size, rfl, Nat.le_refl _, heap_alloc_new _ _, gr_drew (World.grownBy_alloc w _ none)⟩

end Go.Proofs.YtolhbeekfjnfmaaGreatDoor

/- What the face makes of a fault. -/
import Derived.Test.YtolhbeekfjnfmaaGreatDoorWk
namespace Go.Proofs.YtolhbeekfjnfmaaGreatDoor
open Go.RowKit

/-- What the program's own text lays: the two errors of the package, the library's handle of the type error, the library's table of powers. -/
structure LD (aT aL : Addr) (w : World) : Prop where
  cT : w.cell? ⟨2, 0, none⟩ = some (.iface 345 (.pointer (some aT)))
  cL : w.cell? ⟨0, 0, none⟩ = some (.iface 345 (.pointer (some aL)))
  ne : aT ≠ aL
  bT : ∃ ca ta, w.heap[aT.block]? = some (.cells ca ta (0, 0))
  bL : ∃ ca ta, w.heap[aL.block]? = some (.cells ca ta (0, 0))
  cE : w.cell? ⟨1, 0, none⟩ = some (.iface 241 (.agg #[.pointer (some ⟨6, 79, none⟩)]))
  tab : Lib.TabIs Tryz.prog w "internal/strconv.uint64pow10" .u64 Lib.pow10Tab

theorem below_gr {w w' : World} (h : w.grownBy w' none) : Below w.heap.size w w' := ⟨h.os, h.tape, h.output, h.size, fun k hk => h.block k hk (by simp)⟩
theorem Tryz.powIs : Tryz.prog.globalNamed "internal/strconv.uint64pow10" = some 3 := by kernel_rfl
theorem row_lt {w : World} {b : Nat} {o : Obj} (h : w.heap[b]? = some o) : b < w.heap.size := (Array.getElem?_eq_some_iff.1 h).1
theorem LD.kept {aT aL : Addr} {w w' : World} (h : LD aT aL w) (g : w.grownBy w' none) (hz : 3 < w.heap.size) : LD aT aL w' := by
  refine ⟨g.cell h.cT (by simp), g.cell h.cL (by simp), h.ne, ?_, ?_, g.cell h.cE (by simp), ?_⟩
  · obtain ⟨ca, ta, h1⟩ := h.bT; exact ⟨ca, ta, by rw [g.block _ (row_lt h1) (by simp)]; exact h1⟩
  · obtain ⟨ca, ta, h1⟩ := h.bL; exact ⟨ca, ta, by rw [g.block _ (row_lt h1) (by simp)]; exact h1⟩
  · exact var?_below (below_gr g) Tryz.powIs hz h.tab

theorem as_gr (t e : Addr) (w : World) : w.grownBy (asWorld t e w) none :=
  gr_trans (gr_trans (gr_trans (World.grownBy_alloc w _ none) (World.grownBy_alloc _ _ none)) (World.grownBy_alloc _ _ none)) (World.grownBy_alloc _ _ none)

set_option maxHeartbeats 400000 in
theorem refusal_limit (g i : Nat) (aT aL : Addr) (w : World) (hL : LD aT aL w) (hF : FAt g i (.iface 345 (.pointer (some aL))) w) :
    Calls Tryz.prog 36 #[.iface 112 (.pointer (some ⟨g, 0, none⟩))] w fun e w' => e = .returned (.tuple #[.int .i64 0, .int .i64 2]) ∧ w' = w := by
  have cL := hL.cL
  go_enter Tryz.func36, Tryz.ntmps36
  go_wp2_with (go_at_call 64; refine (is_same g aL w hF.c1).mono ?_; rintro e w1 ⟨rfl, rfl⟩)
  go_ret2
  exact ⟨rfl, rfl⟩

set_option maxHeartbeats 400000 in
theorem refusal_text (g i : Nat) (aT aL : Addr) (w : World) (hL : LD aT aL w) (hF : FAt g i (.iface 345 (.pointer (some aT))) w) :
    Calls Tryz.prog 36 #[.iface 112 (.pointer (some ⟨g, 0, none⟩))] w fun e w' => e = .returned (.tuple #[.int .i64 i, .int .i64 1]) ∧ w.grownBy w' none := by
  have cL := hL.cL
  obtain ⟨ca, ta, hA⟩ := hL.bT
  obtain ⟨cb, tb, hB⟩ := hL.bL
  have hlt := World.block_lt_of_cell? w _ hL.cE
  have hE : (w.alloc (.cells #[.pointer none] 112)).cell? ⟨1, 0, none⟩ = some (.iface 241 (.agg #[.pointer (some ⟨6, 79, none⟩)])) := (cell_al w _ _ _ hlt).trans hL.cE
  go_enter Tryz.func36, Tryz.ntmps36
  go_wp2_with (go_at_call 64; refine (is_other g aL aT ca cb ta tb w hF.c1 hL.ne hA hB).mono ?_; rintro e w1 ⟨rfl, rfl⟩)
  refine (as_hit ⟨g, 0, none⟩ ⟨w1.heap.size, 0, none⟩ (.pointer none) (w1.alloc (.cells #[.pointer none] 112)) hE (by simp) (by simp)).mono ?_
  rintro e w2 ⟨rfl, hw2⟩
  have hg1 := as_gr ⟨w1.heap.size, 0, none⟩ ⟨g, 0, none⟩ (w1.alloc (.cells #[.pointer none] 112))
  have hg2 := gr_own (gr_trans (World.grownBy_alloc w1 (.cells #[.pointer none] 112) none) hg1) (gr_set (asWorld ⟨w1.heap.size, 0, none⟩ ⟨g, 0, none⟩ (w1.alloc (.cells #[.pointer none] 112))) w1.heap.size 0 (.pointer (some ⟨g, 0, none⟩))) (Nat.le_refl _)
  have hc : ((asWorld ⟨w1.heap.size, 0, none⟩ ⟨g, 0, none⟩ (w1.alloc (.cells #[.pointer none] 112))).setCell ⟨w1.heap.size, 0, none⟩ (.pointer (some ⟨g, 0, none⟩))).cell? ⟨w1.heap.size, 0, none⟩ = some (.pointer (some ⟨g, 0, none⟩)) := by
    have h1 : (w1.alloc (.cells #[.pointer none] 112)).heap[w1.heap.size]? = some (.cells #[.pointer none] 112 (0, 0)) := heap_alloc_new _ _
    have h2 := hg1.block w1.heap.size (by simp) (by simp)
    rw [h1] at h2
    have h3 := heap_setCell_same _ w1.heap.size 0 _ _ (.pointer (some ⟨g, 0, none⟩)) h2
    simp [World.cell?, h3]
  rw [← hw2] at hg2 hc
  have hF2 := (hF.kept hg2 (by simp)).c0
  clear hw2 hg1 hE
  go_wp2
  go_ret2
  exact ⟨rfl, hg2⟩

end Go.Proofs.YtolhbeekfjnfmaaGreatDoor

import Derived.Test.YtolhbeekfjnfmaaGreatDoorK37
import Derived.Test.YtolhbeekfjnfmaaGreatDoorK38
import Derived.Test.YtolhbeekfjnfmaaGreatDoorK39
import Derived.Test.YtolhbeekfjnfmaaGreatDoorK40
import Derived.Test.YtolhbeekfjnfmaaGreatDoorK41
import Derived.Test.YtolhbeekfjnfmaaGreatDoorK42
import Derived.Test.YtolhbeekfjnfmaaGreatDoorK43
import Derived.Sort.CutIn
import Derived.Stop.RegionWithIn
namespace Go.Proofs.YtolhbeekfjnfmaaGreatDoor
open Go.RowKit
def XU (U T : Nat → Nat) (t x nb : Nat) (s : Sv.St) (w : World) : Prop :=
  ∃ fv F chs Zs, XAt U x nb fv F s.cnt chs w ∧ XSt s F chs Zs ∧ (∀ i, U i = 1 → T i = 0) ∧ (∀ i, 2 ≤ U i → T i = t) ∧ ∀ i, w.heap.size ≤ i → U i = 0
theorem XU.xt {U T : Nat → Nat} {t x nb : Nat} {s : Sv.St} {w : World} (h : XU U T t x nb s w) : XT T t x s w := by
  obtain ⟨fv, F, chs, Zs, h⟩ := h
  exact ⟨U, nb, fv, F, chs, Zs, h⟩
theorem XT.xu {T : Nat → Nat} {t x : Nat} {s : Sv.St} {w : World} (h : XT T t x s w) : ∃ U nb, XU U T t x nb s w := by
  obtain ⟨U, nb, fv, F, chs, Zs, h⟩ := h
  exact ⟨U, nb, fv, F, chs, Zs, h⟩
theorem XU.keep {U T T' : Nat → Nat} {t x nb : Nat} {s : Sv.St} {w w' : World} {S : Nat → Prop} (h : XU U T t x nb s w) (hg : GrS S w w') (hs : ∀ k, T k = t ∨ T k = 0 → ¬ S k) (ho : ∀ k, k < w.heap.size → T k = t ∨ T k = 0 → T' k = T k) : XU U T' t x nb s w' := by
  obtain ⟨fv, F, chs, Zs, h1, h2, h3, h4, h5⟩ := h
  have hlt : ∀ i, U i ≠ 0 → i < w.heap.size := fun i hi => by
    rcases Nat.lt_or_ge i w.heap.size with h | h
    · exact h
    · exact absurd (h5 i h) hi
  have hT : ∀ i, U i ≠ 0 → T i = t ∨ T i = 0 := fun i hi => by
    by_cases h : U i = 1
    · exact .inr (h3 i h)
    · exact .inl (h4 i (by omega))
  refine ⟨fv, F, chs, Zs, h1.keep hg (fun i hi => hs i (hT i hi)) (fun _ _ => rfl), h2, fun i hi => ?_, fun i hi => ?_, fun i hi => h5 i (Nat.le_trans hg.size hi)⟩
  · have hn : U i ≠ 0 := by omega
    rw [ho i (hlt i hn) (hT i hn)]
    exact h3 i hi
  · have hn : U i ≠ 0 := by omega
    rw [ho i (hlt i hn) (hT i hn)]
    exact h4 i hi
theorem XU.gr {U T T' : Nat → Nat} {t x nb : Nat} {s : Sv.St} {w w' : World} (h : XU U T t x nb s w) (hg : w.grownBy w' none) (ho : ∀ k, k < w.heap.size → T' k = T k) : XU U T' t x nb s w' :=
  h.keep (GrS.of hg (by simp) : GrS (fun _ => False) w w') (by simp) (fun k hk _ => ho k hk)
theorem XU.mk' {U0 U : Nat → Nat} {T : Nat → Nat} {t x nb : Nat} {fv : Value} {F : List Ft} {s : Sv.St} {chs : List Ch} {Zs : List (List Tok)} {w w' : World} (hU : ∀ i, i < w.heap.size → U i = U0 i) (h : XAt U x nb fv F s.cnt chs w') (h2 : XSt s F chs Zs) (h1 : ∀ i, i < w.heap.size → U i = 1 → T i = 0) (h3 : ∀ i, i < w.heap.size → 2 ≤ U i → T i = t) (hs : w.heap.size ≤ w'.heap.size) :
    ∃ U' T', XU U' T' t x nb s w' ∧ ∀ k, k < w.heap.size → U' k = U0 k ∧ T' k = T k := by
  refine ⟨fun i => if i < w'.heap.size then U i else 0, fun i => if i < w.heap.size then T i else if U i = 1 then 0 else t, ⟨fv, F, chs, Zs, h.norm, h2, fun i hi => ?_, fun i hi => ?_, fun i hi => ?_⟩, fun k hk => ?_⟩
  · dsimp only at hi ⊢
    by_cases hw' : i < w'.heap.size
    · rw [if_pos hw'] at hi
      by_cases hi0 : i < w.heap.size
      · rw [if_pos hi0]; exact h1 i hi0 hi
      · rw [if_neg hi0, if_pos hi]
    · rw [if_neg hw'] at hi; cases hi
  · dsimp only at hi ⊢
    by_cases hw' : i < w'.heap.size
    · rw [if_pos hw'] at hi
      by_cases hi0 : i < w.heap.size
      · rw [if_pos hi0]; exact h3 i hi0 hi
      · rw [if_neg hi0, if_neg (by omega)]
    · rw [if_neg hw'] at hi; omega
  · dsimp only
    rw [if_neg (by omega)]
  · dsimp only
    rw [if_pos hk, if_pos (by omega)]
    exact ⟨hU k hk, rfl⟩
theorem xAddU (U T : Nat → Nat) (t x nb : Nat) (s : Sv.St) (f : Sv.Fact) (fa : Option Addr) (fc : Nat) (w : World) (h : XU U T t x nb s w) (hc1 : s.cnt ≤ 4611686018427387904) (hin : InAt (.slice fa f.vals.length fc) f.vals w) (hl : f.vals.length ≤ maxLen) (hne : ∀ g, (Value.slice fa f.vals.length fc).ownBlock = some g → T g ≠ t) :
    Calls Tryz.prog 18 #[.pointer (some ⟨x, 0, none⟩), .agg #[.int .i64 f.kind, .slice fa f.vals.length fc]] w fun e w' => e = .returned (.tuple #[.int .i64 (s.add f).1.1, .int .i64 (s.add f).1.2]) ∧ GrS (fun k => T k = t) w w' ∧ ∃ U' T', XU U' T' t x nb (s.add f).2 w' ∧ ∀ k, k < w.heap.size → U' k = U k ∧ T' k = T k := by
  have h0 := h
  obtain ⟨fv, F, chs, Zs, h1, h2, h3, h4, h5⟩ := h
  have hLl : F.length = s.L.length := by rw [← h2.facts, List.length_map]
  cases hF : Sv.factOk f
  · refine (xAdd_no x f fa fc w hin hl hF).mono ?_
    rintro e w' ⟨rfl, hg⟩
    have hadd : s.add f = ((0, 3), s) := by unfold Sv.St.add; rw [if_pos hF]
    rw [hadd]
    exact ⟨rfl, GrS.of hg (by simp), U, T, h0.gr hg (fun _ _ => rfl), fun _ _ => ⟨rfl, rfl⟩⟩
  · by_cases h16 : 16 ≤ s.L.length
    · have hf16 : F.length = 16 := by have := h2.few; omega
      refine (xAdd_full U x nb fv F s.cnt chs f fa fc w h1 hin hl hF hf16).mono ?_
      rintro e w' ⟨rfl, hg⟩
      have hadd : s.add f = ((0, 4), s) := by unfold Sv.St.add; rw [if_neg (by rw [hF]; simp), if_pos h16]
      rw [hadd]
      exact ⟨rfl, GrS.of hg (by simp), U, T, h0.gr hg (fun _ _ => rfl), fun _ _ => ⟨rfl, rfl⟩⟩
    · have hadd : s.add f = ((s.cnt + 1, 0), ⟨s.rs, s.L ++ [(s.cnt + 1, f)], s.cnt + 1, Sv.keepF (Sv.matches s.rs (s.L ++ [(s.cnt + 1, f)])) s.fired⟩) := by unfold Sv.St.add; rw [if_neg (by rw [hF]; simp), if_neg h16]
      have h4l : f.vals.length ≤ 4 := by
        unfold Sv.factOk at hF
        rw [Bool.and_eq_true, Bool.not_eq_true', Bool.or_eq_false_iff] at hF
        have := hF.1.2
        simpa using this
      have hfit : ∀ c ∈ chs, ChFit c := by
        intro c hc
        obtain ⟨i, hi⟩ := List.getElem?_of_mem hc
        have hil : i < s.rs.length := by have := (List.getElem?_eq_some_iff.1 hi).1; rw [h2.rules.len.1] at this; exact this
        obtain ⟨c2, Z, p1, p2, p3⟩ := h2.rules.get (List.getElem?_eq_getElem hil)
        rw [hi] at p1
        simp only [Option.some.injEq] at p1
        subst p1
        exact p3.ok.fit p3.fd p3.few h2.few
      refine (xAdd_yes U x nb fv F s.cnt chs f fa fc w h1 hin h4l hF (by omega) hfit h2.c0 hc1 (fun e => hne x e (h4 x (by rw [h1.ux]; omega)))).mono ?_
      rintro e w' ⟨rfl, U', fv', blk, hb, hX, hG, ho⟩
      have hbl : ∀ g ∈ F, g.blk < blk := fun g hg => by
        obtain ⟨_, _, v, hv, _⟩ := h1.fts g hg
        exact Nat.lt_of_lt_of_le (row_lt hv) hb
      obtain ⟨Zs', hS⟩ := h2.add (f := f) hbl (by omega)
      rw [hadd]
      refine ⟨rfl, hG.mono (fun k hk => h4 k hk), ?_⟩
      exact XU.mk' ho (s := ⟨s.rs, s.L ++ [(s.cnt + 1, f)], s.cnt + 1, Sv.keepF (Sv.matches s.rs (s.L ++ [(s.cnt + 1, f)])) s.fired⟩) hX hS (fun i hi e => by rw [ho i hi] at e; exact h3 i e) (fun i hi e => by rw [ho i hi] at e; exact h4 i e) hG.size
theorem fm_take {α : Type} (enc : α → List Value) (size : Nat) (hs : ∀ a, (enc a).length = size) : ∀ (l : List α) (k : Nat), (l.take k).flatMap enc = (l.flatMap enc).take (k * size)
  | [], k => by simp
  | a :: l, 0 => by simp
  | a :: l, k + 1 => by
    rw [List.take_succ_cons, List.flatMap_cons, List.flatMap_cons, fm_take enc size hs l k, show (k + 1) * size = (enc a).length + k * size by rw [hs, Nat.succ_mul]; omega, List.take_length_add_append]
theorem RowAt.take {α : Type} {e : TypeId} {size : Nat} {enc : α → List Value} {base cap : Nat} {ao : Option Addr} {l : List α} {w : World} (h : RowAt e size enc base (.slice ao l.length cap) l w) (k : Nat) (hk : k ≤ l.length) : RowAt e size enc base (.slice ao k cap) (l.take k) w := by
  have hl : (l.take k).length = k := by rw [List.length_take]; omega
  have hm : k * size ≤ l.length * size := Nat.mul_le_mul_right _ hk
  obtain ⟨hs, h1, h2⟩ := h
  refine ⟨hs, ?_⟩
  rw [fm_take enc size hs, hl]
  refine ⟨by rw [List.length_take, h1]; omega, ?_⟩
  rcases h2 with ⟨e1, e2⟩ | ⟨g, cap', cur, e1, b, hb, c1, c2, c3, c4⟩
  · have : k = 0 := by omega
    subst this
    rw [e2] at e1
    exact .inl ⟨e1, rfl⟩
  · simp only [Value.slice.injEq, true_and] at e1
    obtain ⟨rfl, rfl⟩ := e1
    refine .inr ⟨g, cap, cur, rfl, b, hb, by omega, c2, c3, ?_⟩
    rw [← c4, List.take_take]
    congr 1
    omega
theorem xAll_w (x nb : Nat) (w : World) (c0 : w.cell? ⟨x, 0, none⟩ = some (.pointer (some ⟨nb, 0, none⟩))) : Calls Tryz.prog 32 #[.pointer (some ⟨x, 0, none⟩)] w fun e w' => e = .returned (.func (.func 76) #[] #[.pointer (some ⟨w.heap.size, 0, none⟩)]) ∧ w' = w.alloc (.cells #[.pointer (some ⟨nb, 0, none⟩)] 84) := by
  go_enter Tryz.func32, Tryz.ntmps32
  go_wp2_with (go_at_call 49; refine (nAll_w nb w).mono ?_; rintro e w1 ⟨rfl, rfl⟩)
  go_ret
  exact ⟨rfl, rfl⟩
theorem XU.cell {U T : Nat → Nat} {t x nb : Nat} {s : Sv.St} {w : World} (h : XU U T t x nb s w) : w.cell? ⟨x, 0, none⟩ = some (.pointer (some ⟨nb, 0, none⟩)) := by
  obtain ⟨fv, F, chs, Zs, h1, _⟩ := h
  simp [World.cell?, h1.blk]
theorem AllP.mats {s : Sv.St} {F : List Ft} {chs : List Ch} {Zs : List (List Tok)} (h : XSt s F chs Zs) {qs : List Sq} {ms : List Mv} (hq : SqsOk chs qs) (ha : AllP qs ms) : ms.map (fun x => ((x.ru : Int), x.tok.ids)) <+: Sv.matches s.rs s.L := by
  have h1 := sqs_mats h.asc 0 h.rules hq.1 (fun i q c hi hc => by
    obtain ⟨k1, _, k3, k4⟩ := hq.2 i q c hi hc
    exact ⟨by omega, k3, k4⟩)
  unfold Sv.matches
  rw [← h.facts, ← h1]
  unfold AllP at ha
  have h2 := ha.map (fun p : Nat × Nat × Tok => ((p.1 : Int), p.2.2.ids))
  rw [List.map_map, List.map_flatMap] at h2
  refine List.IsPrefix.trans (List.IsPrefix.trans (by exact List.prefix_rfl) h2) ?_
  have e : (fun q : Sq => (q.l.map (fun t => (q.ru, q.jn, t))).map (fun p : Nat × Nat × Tok => ((p.1 : Int), p.2.2.ids))) = fun q => q.l.map (fun t => ((q.ru : Int), t.ids)) := by
    funext q
    rw [List.map_map]
    rfl
  rw [e]
  exact List.prefix_rfl
end Go.Proofs.YtolhbeekfjnfmaaGreatDoor
namespace Go.Proofs.YtolhbeekfjnfmaaGreatDoor
open Go.RowKit
theorem addNewU (U T : Nat → Nat) (t x nb : Nat) (s : Sv.St) (f : Sv.Fact) (fa : Option Addr) (fc : Nat) (w w1 : World) (h : XU U T t x nb s w) (ht : t ≠ 0) (hc : s.cnt ≤ 4611686018427387904) (hg : w.grownBy w1 none) (hin : InAt (.slice fa f.vals.length fc) f.vals w1) (hl : f.vals.length ≤ maxLen) (hnew : ∀ g, (Value.slice fa f.vals.length fc).ownBlock = some g → w.heap.size ≤ g) :
    Calls Tryz.prog 18 #[.pointer (some ⟨x, 0, none⟩), .agg #[.int .i64 f.kind, .slice fa f.vals.length fc]] w1 fun e w' => e = .returned (.tuple #[.int .i64 (s.add f).1.1, .int .i64 (s.add f).1.2]) ∧ GrS (fun k => k < w.heap.size ∧ T k = t) w1 w' ∧ ∃ U' T', XU U' T' t x nb (s.add f).2 w' ∧ ∀ k, k < w.heap.size → T' k = T k := by
  obtain ⟨T1, hT1⟩ : ∃ T1 : Nat → Nat, T1 = fun j => if j < w.heap.size then T j else 0 := ⟨_, rfl⟩
  have ot : ∀ j, j < w.heap.size → T1 j = T j := fun j hj => by rw [hT1]; dsimp only; rw [if_pos hj]
  have tn : ∀ j, w.heap.size ≤ j → T1 j = 0 := fun j hj => by rw [hT1]; dsimp only; rw [if_neg (by omega)]
  refine (xAddU U T1 t x nb s f fa fc w1 (h.gr hg ot) hc hin hl (fun g hg' => by rw [tn g (hnew g hg')]; exact fun e => ht e.symm)).mono ?_
  rintro e w' ⟨he, hG, U', T', hX, ho⟩
  refine ⟨he, hG.mono (fun k hk => ?_), U', T', hX, fun k hk => by rw [(ho k (Nat.lt_of_lt_of_le hk hg.size)).2, ot k hk]⟩
  rcases Nat.lt_or_ge k w.heap.size with h1 | h1
  · exact ⟨h1, by rw [← ot k h1]; exact hk⟩
  · have hk' : T1 k = t := hk
    rw [tn k h1] at hk'
    exact absurd hk'.symm ht
theorem MtAt.take {ao : Option Addr} {cap : Nat} {ms : List VFt} {w : World} (h : MtAt (.slice ao ms.length cap) ms w) (k : Nat) (hk : k ≤ ms.length) : MtAt (.slice ao k cap) (ms.take k) w := ⟨h.1.take k hk, fun m hm => h.2 m (List.mem_of_mem_take hm)⟩
theorem mvs_mtAt {n0 : Nat} {v : Value} {s : List Mv} {W : World} (hr : RowAt 52 2 mrow 0 v s W) (hm : MvsOk n0 s W) : MtAt v (s.map Mv.ft) W := by
  refine ⟨⟨ftenc_len, ?_⟩, fun m hm' => ?_⟩
  · have e : (s.map Mv.ft).flatMap ftenc = s.flatMap mrow := by rw [List.flatMap_map]; rfl
    rw [e, List.length_map]
    exact hr.2
  · obtain ⟨x, hx, rfl⟩ := List.mem_map.1 hm'
    exact (hm.rows x hx).weak (Nat.zero_le _)
theorem ColI.app {w W w5 : World} {Z L : Nat → Prop} {s : List Mv} {x : Mv} {ao : Option Addr} {cap n m M : Nat} {v5 : Value} (hI : ColI w Z s W) (hb1 : W.heap[w.heap.size]? = some (.cells #[.slice ao s.length cap] 43 (0, 0))) (hb2 : RowAt 52 2 mrow 0 (.slice ao s.length cap) s W) (hb3 : ∀ g, (Value.slice ao s.length cap).ownBlock = some g → ¬ Z g ∧ w.heap.size < g) (hLb : ∀ i, L i → i < w.heap.size) (hM : w.heap.size < M)
    (hv5 : RowAt 52 2 mrow 0 v5 (s ++ [x]) w5) (hl5 : Longer (.slice ao s.length cap) v5 n m (W.alloc (.cells #[.int .i64 x.ru, .slice x.ao x.jn x.cap] 52)) w5) :
    (w5.cell? ⟨w.heap.size, 0, none⟩ = some (.slice ao s.length cap) ∧ w5.frozen? ⟨w.heap.size, 0, none⟩ = false) ∧ KeepsFrom M W (w5.setCell ⟨w.heap.size, 0, none⟩ v5) ∧ Kept Z L W (w5.setCell ⟨w.heap.size, 0, none⟩ v5) ∧ ColI w Z (s ++ [x]) (w5.setCell ⟨w.heap.size, 0, none⟩ v5) := by
  have hgL := World.grownBy_alloc W (.cells #[.int .i64 x.ru, .slice x.ao x.jn x.cap] 52) none
  have hwW := hI.gr.size
  have hne : (Value.slice ao s.length cap).ownBlock ≠ some w.heap.size := fun e => by have := (hb3 _ e).2; omega
  have hb5 : w5.heap[w.heap.size]? = some (.cells #[.slice ao s.length cap] 43 (0, 0)) := hl5.block (by rw [hgL.block _ (row_lt hb1) (by simp)]; exact hb1) hne
  have hset := gr_set w5 w.heap.size 0 v5
  have hG : GrS (fun i => i = w.heap.size ∨ (Value.slice ao s.length cap).ownBlock = some i) W (w5.setCell ⟨w.heap.size, 0, none⟩ v5) := (((GrS.of hgL (by simp) : GrS (fun i => i = w.heap.size ∨ (Value.slice ao s.length cap).ownBlock = some i) W _)).trans (hl5.gr (fun g hg => .inr hg))).then hset (fun g hg => by simp at hg; exact .inr (.inl hg.symm))
  have hs5 := hG.size
  have hown : ∀ g, v5.ownBlock = some g → ¬ Z g ∧ w.heap.size < g := by
    intro g hg
    rcases hl5.own g hg with e | e
    · exact hb3 g e
    · have e2 := Nat.le_trans hgL.size e
      have := row_lt hb1
      exact ⟨fun hz => by have := hI.zs g hz; omega, by omega⟩
  refine ⟨⟨by simp [World.cell?, hb5], by simp [World.frozen?, hb5]⟩, ⟨⟨hs5, fun k o hk ho hc => ?_⟩, ⟨hs5, fun i cs ty fz hz hi => ?_, fun i k u hLi _ hc => ?_⟩, ⟨?_, ⟨v5, ?_, ?_, hown⟩, hI.nz, fun i hi => Nat.lt_of_lt_of_le (hI.zs i hi) hs5⟩⟩⟩
  · refine hG.blk ho ?_
    rintro (e | e)
    · omega
    · obtain ⟨cs, ty, hcs⟩ := hb2.blockCells e
      rw [hcs] at ho
      cases ho
      cases hc
  · refine hG.blk hi ?_
    rintro (e | e)
    · rw [e] at hz; exact hI.nz hz
    · exact (hb3 i e).1 hz
  · have hi := hLb i hLi
    refine hG.cellK hc (World.block_lt_of_cell? W _ hc) ?_
    rintro (e | e)
    · have e' : i = w.heap.size := e
      omega
    · have := (hb3 i e).2; omega
  · refine GrS.grown (S := fun i => w.heap.size ≤ i) ((GrS.of hI.gr (by simp) : GrS (fun i => w.heap.size ≤ i) w W).comp hG (fun i hi hn hx => hn ?_)) (fun i hi h => by omega)
    rcases hx with e | e
    · show w.heap.size ≤ i; omega
    · have := (hb3 i e).2; show w.heap.size ≤ i; omega
  · rw [heap_setCell_same w5 w.heap.size 0 _ _ _ hb5]; rfl
  · exact hv5.other hset (fun g hg e => by have := (hown g hg).2; simp at e; omega)
theorem RowAt.cap {α : Type} {e : TypeId} {size : Nat} {enc : α → List Value} {base n cap : Nat} {ao : Option Addr} {l : List α} {w : World} (h : RowAt e size enc base (.slice ao n cap) l w) : l.length ≤ cap := by
  rcases h.2.2 with ⟨_, e2⟩ | ⟨g, cap', cur, e1, b, hb, c1, c2, c3, c4⟩
  · omega
  · simp only [Value.slice.injEq] at e1
    omega
def GnPost (w : World) (ms : List (Int × List Int)) (k : Nat) (W : World) : Prop :=
  ∃ v ys, W.heap[w.heap.size]? = some (.cells #[v] 43 (0, 0)) ∧ MtAt v ys W ∧ ys.map VFt.mof = ms.take k ∧ w.grownBy W none
theorem gn_done {w W : World} {Z : Nat → Prop} {s : List Mv} {n0 k : Nat} {ms : List (Int × List Int)} (h : ColI w Z s W) (hm : MvsOk n0 s W) (ha : s.map (fun x => ((x.ru : Int), x.tok.ids)) = ms) (hk : s.length ≤ k) : GnPost w ms k W := by
  obtain ⟨v, h1, h2, _⟩ := h.box
  refine ⟨v, s.map Mv.ft, h1, mvs_mtAt h2 hm, ?_, h.gr⟩
  rw [← ha, List.take_of_length_le (by rw [List.length_map]; exact hk), List.map_map]
  rfl
theorem gn_left {w W : World} {Z : Nat → Prop} {s : List Mv} {x : Mv} {n0 k : Nat} {ms : List (Int × List Int)} (h : ColI w Z s W) (hm : MvsOk n0 (s ++ [x]) W) (ha : (s ++ [x]).map (fun x => ((x.ru : Int), x.tok.ids)) <+: ms) (hk : s.length = k) : GnPost w ms k W := by
  obtain ⟨v, h1, h2, _⟩ := h.box
  refine ⟨v, s.map Mv.ft, h1, mvs_mtAt h2 ⟨fun y hy => hm.rows y (List.mem_append_left _ hy), (List.pairwise_append.1 hm.apart).1⟩, ?_, h.gr⟩
  obtain ⟨r, rfl⟩ := ha
  rw [List.map_append, List.append_assoc, ← hk, show s.length = (s.map (fun x => ((x.ru : Int), x.tok.ids))).length by rw [List.length_map], List.take_left, List.map_map]
  rfl
def GnI (w : World) (k : Nat) (Z : Nat → Prop) (s : List Mv) (W : World) : Prop := s.length ≤ k ∧ ColI w Z s W
def GnX (w : World) (k : Nat) (Z : Nat → Prop) (s : List Mv) (W : World) : Prop := ∃ s' x, s = s' ++ [x] ∧ s'.length = k ∧ ColI w Z s' W
theorem GnI.bears (w : World) (k : Nat) : Bears w.heap.size (GnI w k) := fun Z Z' s A B row h hg hr hm hz => ⟨h.1, ColI.bears w Z Z' s A B row h.2 hg hr hm hz⟩
theorem GnX.bears (w : World) (k : Nat) : Bears w.heap.size (GnX w k) := fun Z Z' s A B row h hg hr hm hz => by
  obtain ⟨s', x, rfl, hk, h⟩ := h
  exact ⟨s', x, rfl, hk, ColI.bears w Z Z' s' A B row h hg hr hm hz⟩
end Go.Proofs.YtolhbeekfjnfmaaGreatDoor
namespace Go.Proofs.YtolhbeekfjnfmaaGreatDoor
theorem matF_len (L : List (Int × Sv.Fact)) (hL : L.length ≤ 16) : ∀ (rs : List Sv.Rule) (k : Nat), (∀ r ∈ rs, r.conds.length ≤ 4) → (Sv.matF L k rs).length ≤ rs.length * 65536
  | [], _, _ => by simp [Sv.matF]
  | r :: rs, k, h => by
    have h1 := Sv.fromD_len L hL r.conds [] []
    have h2 : 16 ^ r.conds.length ≤ 16 ^ 4 := Nat.pow_le_pow_right (by omega) (h r (List.mem_cons_self ..))
    have h3 : (16 : Nat) ^ 4 = 65536 := by decide
    have h4 := matF_len L hL rs (k + 1) (fun q hq => h q (List.mem_cons_of_mem _ hq))
    show ((Sv.fromD L r.conds [] []).map (fun ids => ((k : Int), ids)) ++ Sv.matF L (k + 1) rs).length ≤ _
    rw [List.length_append, List.length_map, List.length_cons, Nat.add_mul, Nat.one_mul]
    omega
theorem mats_len (rs : List Sv.Rule) (L : List (Int × Sv.Fact)) (hr : Sv.RsOk rs) (hL : L.length ≤ 16) : (Sv.matches rs L).length ≤ 524288 := by
  have h1 := matF_len L hL rs 0 hr.conds
  have h2 := hr.len
  have h3 : rs.length * 65536 ≤ 8 * 65536 := Nat.mul_le_mul_right _ h2
  unfold Sv.matches
  omega
end Go.Proofs.YtolhbeekfjnfmaaGreatDoor
namespace Go.Proofs.YtolhbeekfjnfmaaGreatDoor
open Go.RowKit
attribute [local go_sem] Oper.semAt_some
set_option maxRecDepth 100000 in
theorem eql_func_nil (f : Nat) (cs : Array Value) (w : World) : (binOp .eql 64 (.func (.func f) #[] cs) .nilFunc).run Tryz.prog w = .ok (.bool false) w := by rfl
attribute [local go_sem] eql_func_nil
theorem Sv.gone_add (st : Sv.St) (h : st.L.length ≤ 6) : (st.add ⟨1, [1, 1]⟩).1 = (st.cnt + 1, 0) ∧ (st.add ⟨1, [1, 1]⟩).2.rs = st.rs ∧ (st.add ⟨1, [1, 1]⟩).2.L.length ≤ 16 := by
  unfold Sv.St.add
  rw [if_neg (by decide), if_neg (by omega)]
  exact ⟨rfl, rfl, by show (st.L ++ [_]).length ≤ 16; simp; omega⟩
set_option maxRecDepth 100000 in
set_option maxHeartbeats 8000000 in
theorem gone_w (w : World) (aT aL : Addr) (hL : LD aT aL w) (hP : 3 < w.heap.size) (s : ByteArray) (hs : s.size ≤ maxLen) (ao : Option Addr) (len cap : Nat) (hst : StpsAt ao len w) (early : Int) (hwr : I64 early) :
    Calls Tryz.prog 12 #[.string s, .slice ao len cap, .int .i64 early] w fun e w' => e = .returned (.bool true) ∧ w.grownBy w' none := by
  obtain ⟨rs, hrs⟩ := Sv.ktext_net s
  have hE := kended_w aT aL w hL hP
  have hR := fun (w1 : World) (hg : w.grownBy w1 none) => krun_w s aT aL w1 (hL.kept hg hP) (Nat.lt_of_lt_of_le hP hg.size) hs ao len cap (hst.kept hg) rs hrs
  have HWR := hide hwr
  have hro := Sv.netOf_ok _ rs hrs
  have HRO := hide hro
  clear hro hL hP hst hs hrs hwr
  refine (callsIn_wide (n := 5)).1 ?_
  refine callsIn_of_wp_marks Tryz.func12 rfl trivial ?_ rfl
  simp only [Tryz.ntmps12, List.size_toArray, List.length_cons, List.length_nil, Nat.reduceAdd, Nat.reduceSub, Array.replicate_succ, Array.replicate_zero, List.push_toArray, List.append_toArray, List.nil_append, List.cons_append]
  gi_wp2
  refine ⟨trivial, ?_⟩
  refine (callsIn_wide.2 hE).mono ?_
  rintro e w1 ⟨rfl, hg1⟩
  have hR1 := hR w1 hg1
  clear hE hR
  gi_wp2
  refine ⟨trivial, ?_⟩
  refine (callsIn_wide.2 hR1).mono ?_
  rintro e w2 ⟨T2, x, st, rfl, hK1⟩
  have hK := hK1.from hg1
  obtain ⟨U2, nb, hX2⟩ := hK.net.xu
  have hAl := xAll_w x nb w2 hX2.cell
  have hgA := World.grownBy_alloc w2 (.cells #[.pointer (some ⟨nb, 0, none⟩)] 84) none
  have hxA := heap_alloc_new w2 (.cells #[.pointer (some ⟨nb, 0, none⟩)] 84)
  have HK := hide (show _ ∧ _ from ⟨hK, hX2⟩)
  clear hR1 hK1 hg1 hK hX2
  gi_wp2
  refine ⟨trivial, ?_⟩
  refine (callsIn_wide.2 hAl).mono ?_
  rintro e w3 ⟨rfl, hw3⟩
  rw [← hw3] at hgA hxA
  have hgB := World.grownBy_alloc w3 (.cells #[.int .i64 1, .int .i64 1] 3) none
  have hAd := addNewU U2 T2 1 x nb st ⟨1, [1, 1]⟩ (some ⟨w3.heap.size, 0, none⟩) 2 w2 _ (unhide HK).2 (by decide) (by have := (unhide HK).1.ok.cn; omega) (gr_trans hgA hgB) (inAt_lit2 w3 1 1) (by unfold maxLen; decide) (fun g hg => by cases hg; exact hgA.size)
  obtain ⟨ga1, ga2, ga3⟩ := Sv.gone_add st (unhide HK).1.ok.len
  rw [ga1] at hAd
  rw [(unhide HK).1.ok.rs] at ga2
  have hb4 : (w3.alloc (.cells #[.int .i64 1, .int .i64 1] 3)).heap[w2.heap.size]? = some (.cells #[.pointer (some ⟨nb, 0, none⟩)] 84 (0, 0)) := by rw [hgB.block _ (row_lt hxA) (by simp)]; exact hxA
  have H4 := hide (show _ ∧ _ ∧ _ ∧ _ from ⟨hb4, gr_trans hgA hgB, ga2, ga3⟩)
  clear hAl hgA hxA hgB hw3 ga1 hb4 ga2 ga3
  gi_wp2
  refine ⟨trivial, ?_⟩
  refine (callsIn_wide.2 hAd).mono ?_
  rintro e w5 ⟨rfl, hG5, U5, T5, hX5, hT5⟩
  obtain ⟨hb4, hg24, ga2, ga3⟩ := unhide H4
  have hb5 := hG5.blk hb4 (fun h => by have h1 : w2.heap.size < w2.heap.size := h.1; omega)
  have hgw5 : w.grownBy w5 none := by
    have h24 : w.grownBy (w3.alloc (.cells #[.int .i64 1, .int .i64 1] 3)) none := gr_trans (unhide HK).1.gr hg24
    exact GrS.grown (S := fun i => w.heap.size ≤ i) ((GrS.of h24 (by simp) : GrS (fun i => w.heap.size ≤ i) w _).comp hG5 (fun i hi _ hx => by have h2 := hx.2; rw [(unhide HK).1.old i hi] at h2; cases h2)) (fun i hi h => by omega)
  have hM := xMatsT T5 1 x _ w5 hX5.xt
  obtain ⟨s2, hs2⟩ : ∃ s2, (st.add ⟨1, [1, 1]⟩).2 = s2 := ⟨_, rfl⟩
  rw [hs2] at hX5 hM ga2 ga3
  have H5 := hide (show _ ∧ _ ∧ _ from ⟨hX5, hb5, hgw5⟩)
  clear hAd hG5 hX5 hT5 hb4 hg24 hb5 hgw5 HK hs2 H4
  have HGA := hide (show _ ∧ _ from ⟨ga2, ga3⟩)
  clear ga2 ga3
  gi_wp2
  refine ⟨trivial, ?_⟩
  refine (callsIn_wide.2 hM).mono ?_
  rintro e w6 ⟨T6, l, xs, rfl, hg6, hH6, hx6, hT6⟩
  obtain ⟨lo, lc, hl⟩ := hH6.mtAt.slice
  subst hl
  have hxl := hH6.mtAt.1.le
  unfold maxLen at hxl
  obtain ⟨hX5, hb5, hgw5⟩ := unhide H5
  have hX6 := hX5.gr hg6 hT6
  have hfew : xs.length ≤ 4611686018427387903 := by
    have h1 := congrArg List.length hx6
    rw [List.length_map] at h1
    have := mats_len s2.rs s2.L (by rw [(unhide HGA).1]; exact unhide HRO) (unhide HGA).2
    omega
  have hpk := kpick_w early ((xs.length : Int) + 1) (unhide HWR) (by omega) (by omega) w6
  have hprg := Sv.pick_rng early ((xs.length : Int) + 1) (by omega)
  obtain ⟨kn, hkn⟩ : ∃ kn : Nat, Sv.pick early ((xs.length : Int) + 1) = kn := ⟨(Sv.pick early ((xs.length : Int) + 1)).toNat, by omega⟩
  rw [hkn] at hpk hprg
  have hk2 : kn ≤ xs.length := by omega
  have H6 := hide (show XU U5 T6 1 x nb s2 w6 ∧ w6.heap[w2.heap.size]? = some (.cells #[.pointer (some ⟨nb, 0, none⟩)] 84 (0, 0)) ∧ w.grownBy w6 none ∧ MtAt (.slice lo xs.length lc) xs w6 ∧ xs.map VFt.mof = Sv.matches s2.rs s2.L from ⟨hX6, by rw [hg6.block _ (row_lt hb5) (by simp)]; exact hb5, gr_trans hgw5 hg6, hH6.mtAt, hx6⟩)
  clear hM hH6 hx6 hT6 hg6 hX5 hb5 hgw5 hX6 H5 hkn hprg HGA
  gi_wp2
  refine ⟨trivial, ?_⟩
  refine (callsIn_wide.2 hpk).mono ?_
  rintro e w6' ⟨rfl, hw6⟩
  subst w6'
  clear hpk
  gi_wp2
  have hg7 := World.grownBy_alloc w6 (.cells #[.int .i64 kn] 3) none
  have hx7 := heap_alloc_new w6 (.cells #[.int .i64 kn] 3)
  generalize w6.alloc (.cells #[.int .i64 kn] 3) = w7 at hg7 hx7 ⊢
  have H7 := hide (show _ ∧ _ from ⟨hg7, hx7⟩)
  clear hg7 hx7
  refine wpIn_loop (fun a' w' => ∃ (i : Nat) (Ds : List Nat) (u15 u17 u48 u49 u50 u51 u52 u62 u63 u64 u65 u66 u67 u68 u69 u70 u71 u72 : Value), i ≤ 2 ∧ Hid (w7.grownBy w' none ∧ Ds.Nodup ∧ ∀ D ∈ Ds, w7.heap.size ≤ D ∧ w'.heap[D]? = some (.deferred (some []))) ∧ a' = { tmps := #[.string s, .slice ao len cap, .int .i64 early, undef, undef, undef, .bool false, .bool true, .pointer (some ⟨x, 0, none⟩), .func (.func 76) #[] #[.pointer (some ⟨w2.heap.size, 0, none⟩)], .int .i64 (st.cnt + 1), .int .i64 0, .slice lo xs.length lc, .pointer (some ⟨w6.heap.size, 0, none⟩), .int .i64 i, u15, undef, u17, .bool true, .string s, .slice ao len cap, .pointer (some ⟨x, 0, none⟩), .bool true, .bool false, .bool false, .pointer (some ⟨x, 0, none⟩), .bool false, .bool false, .pointer (some ⟨x, 0, none⟩), .func (.func 76) #[] #[.pointer (some ⟨w2.heap.size, 0, none⟩)], .func (.func 76) #[] #[.pointer (some ⟨w2.heap.size, 0, none⟩)], .bool false, .tuple #[.int .i64 (st.cnt + 1), .int .i64 0], .pointer (some ⟨x, 0, none⟩), .slice (some ⟨w3.heap.size, 0, none⟩) 2 2, .agg #[.int .i64 1, .slice (some ⟨w3.heap.size, 0, none⟩) 2 2], .tuple #[.int .i64 (st.cnt + 1), .int .i64 0], .int .i64 (st.cnt + 1), .int .i64 0, .pointer (some ⟨x, 0, none⟩), .slice lo xs.length lc, .int .i64 0, .bool false, .int .i64 early, .slice lo xs.length lc, .int .i64 xs.length, .int .i64 (xs.length + 1), .int .i64 kn, u48, u49, u50, u51, u52, undef, undef, undef, undef, undef, undef, undef, undef, undef, u62, u63, u64, u65, u66, u67, u68, u69, u70, u71, u72], defers := Ds.map (fun D => { target := .collected D, args := #[] }) }) (fun a' _ => 2 - (intOf (a'.tmps.getD 14 undef)).toNat) ?_ ?_
  · exact ⟨0, [], _, _, _, _, _, _, _, _, _, _, _, _, _, _, _, _, _, _, Nat.zero_le _, hide ⟨World.grownBy.refl _ _, List.nodup_nil, by simp⟩, rfl⟩
  · rintro a' wr ⟨i, Ds, u15, u17, u48, u49, u50, u51, u52, u62, u63, u64, u65, u66, u67, u68, u69, u70, u71, u72, hi, HD, rfl⟩
    by_cases hlt : i < 2
    · have hd : decide ((i : Int) < 2) = true := decide_eq_true (by omega)
      have hgw0 := World.grownBy_alloc wr (.cells #[.slice none 0 0] 43) none
      have hx0 := heap_alloc_new wr (.cells #[.slice none 0 0] 43)
      have hsz0 : (wr.alloc (.cells #[.slice none 0 0] 43)).heap.size = wr.heap.size + 1 := by simp
      gi_wp2
      generalize wr.alloc (.cells #[.slice none 0 0] 43) = w0 at hgw0 hx0 hsz0 ⊢
      obtain ⟨hgr, hnd, hmk⟩ := unhide HD
      obtain ⟨hg7, hx7⟩ := unhide H7
      obtain ⟨hX6, hbn, hgw, hM6, hx6⟩ := unhide H6
      have hg6r := gr_trans hg7 hgr
      have hXr := hX6.gr hg6r (T' := T6) (fun _ _ => rfl)
      have hbr : wr.heap[w2.heap.size]? = some (.cells #[.pointer (some ⟨nb, 0, none⟩)] 84 (0, 0)) := by rw [hg6r.block _ (row_lt hbn) (by simp)]; exact hbn
      have hkr : wr.heap[w6.heap.size]? = some (.cells #[.int .i64 kn] 3 (0, 0)) := by rw [hgr.block _ (row_lt hx7) (by simp)]; exact hx7
      obtain ⟨fv, F, chs, Zs, hXA, hXS, hU1, hU2, hU0⟩ := hXr
      have hfewc := hXS.chsFew
      have hUlt : ∀ i, U5 i ≠ 0 → i < wr.heap.size := fun i hi => by
        rcases Nat.lt_or_ge i wr.heap.size with h | h
        · exact h
        · exact absurd (hU0 i h) hi
      refine range_w rfl (by omega) (f := 76) (caught := #[.pointer (some ⟨w2.heap.size, 0, none⟩)]) rfl trivial (enters_of Tryz.func76 (by kernel_rfl) rfl)
        (all1_prom _ (fun i => i < wr.heap.size) (fun i => i < wr.heap.size) U5 nb w2.heap.size wr.heap.size wr.heap.size 1000000000 chs (fun i hi => hUlt i (by omega)) (fun j c i _ hi _ => hUlt i (by omega)) hUlt hfewc.1 (by have := hfewc.2; omega) (by have := sum_le chs (fun c hc => (hfewc.1 c hc).2.2); have := hfewc.2; have : chs.length * 1000000 ≤ 8 * 1000000 := Nat.mul_le_mul_right _ this; omega)) (fun _ => rfl)
        (fun B hB => ⟨hXA.net.keep (GrS.of (gr_trans hgw0 hB) (by simp) : GrS (fun _ => False) wr B) (by simp) (fun _ _ => rfl), by rw [(gr_trans hgw0 hB).block _ (row_lt hbr) (by simp)]; exact hbr, (gr_trans hgw0 hB).size, (gr_trans hgw0 hB).size⟩)
        (fun Z s A B row h hg hr => ⟨⟨h.1.1, MvsOk.own _ _ s A B row h.1.2 hg hr⟩, h.2⟩) (fun Z s A B row h hg hr => ⟨⟨h.1.1, MvsOk.own _ _ s A B row h.1.2 hg hr⟩, h.2⟩)
        (GnI wr kn) (fun c Z s W => c = .exit 2 ∧ GnX wr kn Z s W) ((GnI.bears wr kn).mono (by omega)) (fun c Z Z' s A B row h hg hr hm hz => ⟨h.1, (GnX.bears wr kn).mono (by omega) Z Z' s A B row h.2 hg hr hm hz⟩) (fun i => i < wr.heap.size) (fun _ h => h) ?h0
        (fun xm b W => ∃ Bx, W.heap[Bx]? = some (.cells #[.int .i64 xm.ru, .slice xm.ao xm.jn xm.cap] 52 (0, 0)) ∧ b = { tmps := #[.string s, .slice ao len cap, .int .i64 early, undef, undef, undef, .bool false, .bool true, .pointer (some ⟨x, 0, none⟩), .func (.func 76) #[] #[.pointer (some ⟨w2.heap.size, 0, none⟩)], .int .i64 (st.cnt + 1), .int .i64 0, .slice lo xs.length lc, .pointer (some ⟨w6.heap.size, 0, none⟩), .int .i64 i, .pointer (some ⟨wr.heap.size, 0, none⟩), .pointer (some ⟨Bx, 0, none⟩), u17, .bool true, .string s, .slice ao len cap, .pointer (some ⟨x, 0, none⟩), .bool true, .bool false, .bool false, .pointer (some ⟨x, 0, none⟩), .bool false, .bool false, .pointer (some ⟨x, 0, none⟩), .func (.func 76) #[] #[.pointer (some ⟨w2.heap.size, 0, none⟩)], .func (.func 76) #[] #[.pointer (some ⟨w2.heap.size, 0, none⟩)], .bool false, .tuple #[.int .i64 (st.cnt + 1), .int .i64 0], .pointer (some ⟨x, 0, none⟩), .slice (some ⟨w3.heap.size, 0, none⟩) 2 2, .agg #[.int .i64 1, .slice (some ⟨w3.heap.size, 0, none⟩) 2 2], .tuple #[.int .i64 (st.cnt + 1), .int .i64 0], .int .i64 (st.cnt + 1), .int .i64 0, .pointer (some ⟨x, 0, none⟩), .slice lo xs.length lc, .int .i64 0, .bool false, .int .i64 early, .slice lo xs.length lc, .int .i64 xs.length, .int .i64 (xs.length + 1), .int .i64 kn, .int .i64 i, .bool true, u50, u51, .func (.func 76) #[] #[.pointer (some ⟨w2.heap.size, 0, none⟩)], .agg #[.int .i64 xm.ru, .slice xm.ao xm.jn xm.cap], undef, undef, undef, undef, undef, undef, undef, undef, u62, u63, u64, u65, u66, u67, u68, u69, u70, u71, u72], defers := [] }) ?hAx ?assign ?body ?done ?left
      case h0 => exact ⟨Nat.zero_le _, hgw0, ⟨_, hx0, RowAt.nil 0 _ mrow_len, by simp [Value.ownBlock]⟩, fun h => Nat.lt_irrefl _ h, fun i hi => by omega⟩
      case hAx =>
        rintro xm b _ A B row ⟨Bx, h1, h2⟩ hg hr
        refine ⟨Bx, ?_, h2⟩
        rw [hg.block Bx (row_lt h1) (fun e => ?_)]
        · exact h1
        · obtain ⟨_, o, ho, hc⟩ := hr Bx e.symm
          rw [h1] at ho
          cases ho
          cases hc
      case assign =>
        rintro l Z sm xm W K hI hK
        have hga := World.grownBy_alloc W (.cells #[.int .i64 xm.ru, .slice xm.ao xm.jn xm.cap] 52) none
        have hk := hK _ _ ((KeepsOthers.alloc W (.cells #[.int .i64 xm.ru, .slice xm.ao xm.jn xm.cap] 52)).from _) (Kept.gr hga) (GnI.bears wr kn Z Z sm _ _ none hI hga (by simp) (fun i h => h) (fun i h => .inl h)) ⟨W.heap.size, heap_alloc_new _ _, rfl⟩
        unfold mvenc
        clear hK
        gi_wp2
        exact hk
      case body =>
        rintro l Z sm xm b W hl hr ⟨hsl, hcol⟩ ⟨Bx, hBx, rfl⟩ hlen
        obtain ⟨v, hb1, hb2, hb3⟩ := hcol.box
        obtain ⟨vo, vc, rfl⟩ := hb2.slice
        have y0 : W.cell? ⟨wr.heap.size, 0, none⟩ = some (.slice vo sm.length vc) := by simp [World.cell?, hb1]
        have yk : W.cell? ⟨w6.heap.size, 0, none⟩ = some (.int .i64 kn) := hcol.gr.cell (by simp [World.cell?, hkr]) (by simp)
        have HC := hide hcol
        by_cases hek : sm.length = kn
        · have hdk : ((sm.length : Int) == (kn : Int)) = true := by simp; omega
          have HEK := hide hek
          clear hek hcol hb1 hb2 hb3 hBx hXA hXS hU1 hU2 hU0 hfewc hUlt hX6 hM6 hx6 hr
          gi_wp2
          exact ⟨⟨Nat.le_refl _, fun _ _ _ h _ => h⟩, Kept.gr (World.grownBy.refl _ _), rfl, sm, xm, rfl, unhide HEK, unhide HC⟩
        · have hdk : ((sm.length : Int) == (kn : Int)) = false := by simp; omega
          have x0 : W.cell? ⟨Bx, 0, none⟩ = some (.int .i64 xm.ru) := by simp [World.cell?, hBx]
          have x1 : W.cell? ⟨Bx, 1, none⟩ = some (.slice xm.ao xm.jn xm.cap) := by simp [World.cell?, hBx]
          have hgL := World.grownBy_alloc W (.cells #[.int .i64 xm.ru, .slice xm.ao xm.jn xm.cap] 52) none
          have hr2 := hb2.gr hgL
          have hsrc : RowAt 52 2 mrow 0 (.slice (some ⟨W.heap.size, 0, none⟩) 1 1) [xm] (W.alloc (.cells #[.int .i64 xm.ru, .slice xm.ao xm.jn xm.cap] 52)) := (RowAt.lit1 (e := 52) mrow_len W xm #[.int .i64 xm.ru, .slice xm.ao xm.jn xm.cap] rfl).weak (Nat.zero_le _)
          have HEND := hide (fun (v5 : Value) (w5 : World) (n m : Nat) (hv5 : RowAt 52 2 mrow 0 v5 (sm ++ [xm]) w5) (hl5 : Longer (.slice vo sm.length vc) v5 n m (W.alloc (.cells #[.int .i64 xm.ru, .slice xm.ao xm.jn xm.cap] 52)) w5) => hcol.app (L := fun i => i < wr.heap.size) hb1 hb2 hb3 (fun _ h => h) (M := w0.heap.size) (by omega) hv5 hl5)
          have hsl2 : sm.length + 1 ≤ kn := by omega
          clear hek hcol hb1 hb2 hb3 hBx hXA hXS hU1 hU2 hU0 hfewc hUlt hX6 hM6 hx6 hr HC
          gi_wp2_with (gi_at_builtin; refine app_two_in rfl _ _ 43 rfl Tryz.underlying43 Tryz.infoMatch2 rfl (by decide) rfl hr2 rfl hsrc (by simp) (fun y hy => by simp only [List.mem_singleton] at hy; subst hy; intro c hc; simp [mrow, Mv.sl] at hc; rcases hc with rfl | rfl <;> rfl) (by unfold maxLen; simp; omega) (by simp; omega) ?_)
          intro v5 w5 hv5 hl5
          obtain ⟨⟨q1, q2⟩, f1, f2, f3⟩ := unhide HEND v5 w5 _ _ hv5 hl5
          obtain ⟨g5, cap5, rfl⟩ := hl5.form
          have HF := hide (show _ ∧ _ ∧ _ from ⟨f1, f2, f3⟩)
          clear hv5 hl5 hr2 hsrc HEND f1 f2 f3
          gi_wp2
          obtain ⟨f1, f2, f3⟩ := unhide HF
          exact ⟨f1, f2, by rw [List.length_append]; exact hsl2, f3⟩
      case' done =>
        rintro Z sm W ⟨⟨⟨qs, hqs, has⟩, hmv⟩, hin⟩ ⟨hsl, hcol⟩ hD
        have hP := gn_done hcol hmv (AllS.mats hXS hqs has) hsl
        clear hcol hmv has hqs hin hsl
      case' left =>
        rintro c Z sm W ⟨⟨⟨qs, hqs, has⟩, hmv⟩, hin⟩ ⟨rfl, s', x', rfl, hk', hcol⟩ hD
        have hP := gn_left hcol hmv (AllP.mats hXS hqs has) hk'
        clear hcol hmv has hqs hin hk'
      all_goals
        obtain ⟨v, ys, hb1, hys, hym, hgW⟩ := hP
        obtain ⟨vo, vc, rfl⟩ := hys.slice
        have y0 : W.cell? ⟨wr.heap.size, 0, none⟩ = some (.slice vo ys.length vc) := by simp [World.cell?, hb1]
        have yk : W.cell? ⟨w6.heap.size, 0, none⟩ = some (.int .i64 kn) := hgW.cell (by simp [World.cell?, hkr]) (by simp)
        have hS := fun (wx : World) (hx : W.grownBy wx none) => ksame_w ys (xs.take kn) _ _ wx (hys.gr hx) ((hM6.gr (gr_trans hg6r (gr_trans hgW hx))).take kn hk2)
        have hdS : decide (ys.map VFt.mof = (xs.take kn).map VFt.mof) = true := decide_eq_true (by rw [hym, List.map_take]; exact congrArg _ hx6.symm)
        rw [hdS] at hS
        have HN := hide (show ∀ wx, W.grownBy wx none → w7.grownBy wx none ∧ (w0.heap.size :: Ds).Nodup ∧ ∀ D ∈ w0.heap.size :: Ds, w7.heap.size ≤ D ∧ wx.heap[D]? = some (.deferred (some [])) from fun wx hx => ⟨gr_trans hgr (gr_trans hgW hx), List.nodup_cons.2 ⟨fun hm => by have := row_lt (hmk _ hm).2; omega, hnd⟩, fun D hDD => by
          rcases List.mem_cons.1 hDD with rfl | hDD
          · exact ⟨by have := hgr.size; omega, by rw [hx.block _ (row_lt hD) (by simp)]; exact hD⟩
          · exact ⟨(hmk D hDD).1, by rw [(gr_trans hgW hx).block _ (row_lt (hmk D hDD).2) (by simp)]; exact (hmk D hDD).2⟩⟩)
        have hlc : (kn : Int) ≤ (lc : Int) := by
          have := hM6.1.cap
          omega
        have hk0 : (0 : Int) ≤ (kn : Int) := by omega
        clear hdS hys hym hb1 hXA hXS hU1 hU2 hU0 hfewc hUlt hX6 hM6 hx6 hD hmk hnd hbr hkr hbn hsz0
        gi_wp2
        gi_cut [17] from 62 (fun z wx => z = .bool true ∧ Hid (W.grownBy wx none))
        case first =>
          clear HN hgW hgr hg6r hg7
          rename_i J K' _ _
          refine wpIn_mono (Q := Exit.then K' (fun _ _ _ => False)) ?_ (fun e a w h => by
            cases e with
            | normal => exact h
            | ret => exact h.elim
            | exit i => exact h.elim
            | goto t => exact h.elim
            | panic c => exact h.elim
            | outgrown => exact h.elim)
          gi_region_with (refine ⟨trivial, ?_⟩; refine (callsIn_wide.2 (hS _ (by repeat (first | with_reducible exact World.grownBy.refl _ _ | with_reducible apply gr_drew)))).mono ?_; rintro e w9 ⟨rfl, hg9⟩)
          all_goals
            gi_wp2
            gi_meet
            exact ⟨rfl, hide (gr_trans (by repeat (first | with_reducible exact World.grownBy.refl _ _ | with_reducible apply gr_drew)) hg9)⟩
        case rest =>
          obtain ⟨rfl, HC⟩ := hcut
          have HN2 := hide (unhide HN wc (unhide HC))
          clear HN HC hS hgW hgr hg6r hg7
          gi_wp2
          refine ⟨⟨i + 1, w0.heap.size :: Ds, _, _, _, _, _, _, _, _, _, _, _, _, _, _, _, _, _, _, by omega, HN2, rfl⟩, ?_⟩
          simp [intOf]
          omega
    · have hd : decide ((i : Int) < 2) = false := decide_eq_false (by omega)
      obtain ⟨hX6, hbn, hgw, hM6, hx6⟩ := unhide H6
      obtain ⟨hg7, hx7⟩ := unhide H7
      obtain ⟨hgr, hnd, hmk⟩ := unhide HD
      have hg6r := gr_trans hg7 hgr
      have hM := xMatsT T6 1 x s2 wr (hX6.xt.gr hg6r (fun _ _ => rfl))
      have HE := hide (show MtAt (.slice lo xs.length lc) xs wr ∧ xs.map VFt.mof = Sv.matches s2.rs s2.L ∧ w.grownBy wr none ∧ w7.heap.size ≤ wr.heap.size from ⟨hM6.gr hg6r, hx6, gr_trans hgw hg6r, hgr.size⟩)
      have hw7 : w.heap.size ≤ w7.heap.size := Nat.le_trans hgw.size hg7.size
      clear hX6 hbn hgw hM6 hx6 hx7 hgr hnd hmk hg6r hg7
      gi_wp2
      refine ⟨trivial, ?_⟩
      refine (callsIn_wide.2 hM).mono ?_
      rintro e w9 ⟨T9, l9, xs9, rfl, hg9, hH9, hx9, hT9⟩
      obtain ⟨hM6, hx6, hgw, hsz⟩ := unhide HE
      have hS := ksame_w xs9 xs _ _ w9 hH9.mtAt (hM6.gr hg9)
      have hdS : decide (xs9.map VFt.mof = xs.map VFt.mof) = true := decide_eq_true ((show xs9.map VFt.mof = Sv.matches s2.rs s2.L from hx9).trans hx6.symm)
      rw [hdS] at hS
      obtain ⟨lo9, lc9, hl9⟩ := hH9.mtAt.slice
      subst hl9
      have hg69 := gr_trans hgw hg9
      have HG9 := hide (show _ ∧ _ from ⟨hg9, hg69⟩)
      clear hM hdS hH9 hx9 hT9 hg9 hM6 hx6 hgw hg69 HE
      gi_wp2
      refine ⟨trivial, ?_⟩
      refine (callsIn_wide.2 hS).mono ?_
      rintro e w10 ⟨rfl, hg10⟩
      have HG10 := hide hg10
      clear hS hg10
      gi_wp2
      obtain ⟨hg9, hg69⟩ := unhide HG9
      obtain ⟨hgr, hnd, hmk⟩ := unhide HD
      refine leaves_marks (fun _ => results_tmp (t := 6) rfl _ _ _) Ds w10 hnd (fun D hD => ?_) ⟨rfl, gr_trans hg69 (unhide HG10)⟩ (fun A D hD h hb => ⟨rfl, ?_⟩)
      · rw [(gr_trans hg9 (unhide HG10)).block _ (row_lt (hmk D hD).2) (by simp)]; exact (hmk D hD).2
      · exact gr_app h.2 (grownBy_putObj' A D (.deferred none)) (fun g hg => by cases hg; have := (hmk D hD).1; omega)
end Go.Proofs.YtolhbeekfjnfmaaGreatDoor

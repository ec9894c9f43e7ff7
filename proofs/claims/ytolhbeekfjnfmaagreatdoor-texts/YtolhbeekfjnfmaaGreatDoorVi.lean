/- The document's writer: rules in their plain form. -/
import Derived.Test.YtolhbeekfjnfmaaGreatDoorVh
namespace Go.Proofs.YtolhbeekfjnfmaaGreatDoor
open Go.RowKit

set_option maxRecDepth 100000 in
set_option maxHeartbeats 400000 in
theorem vplain_bad (s : ByteArray) (w : World) (hm : s.size ≤ maxLen) (n m : Nat)
    (hp : ∀ e w', VParsePost w s e w' → e = .returned (.tuple #[.slice none 0 0, .int .i64 n, .int .i64 m]) ∧ w.grownBy w' none) :
    Calls Tryz.prog 50 #[.string s] w fun e w' => e = .returned (.tuple #[.string ⟨#[]⟩, .int .i64 n, .int .i64 m]) ∧ w.grownBy w' none := by
  go_enter Tryz.func50, Tryz.ntmps50
  go_wp2_with fail
  refine (vparse_w s w hm).mono ?_
  intro e w1 hpost
  obtain ⟨rfl, hg1⟩ := hp e w1 hpost
  clear hp hpost
  go_wp2
  go_loopw [8, 9] (fun x y w' => x = .string ⟨#[]⟩ ∧ y = .int .i64 0 ∧ w' = w1) (fun _ _ _ => 0)
  case atStart => exact ⟨rfl, rfl, rfl⟩
  case round =>
    obtain ⟨rfl, rfl, rfl⟩ := hrel
    go_wp2
    go_ret3
    exact ⟨rfl, hg1⟩

theorem ba3 (a b c : List UInt8) : (⟨a.toArray⟩ : ByteArray) ++ ⟨b.toArray⟩ ++ ⟨c.toArray⟩ = ⟨(a ++ (b ++ c)).toArray⟩ := by rw [ba_app, ba_app, List.append_assoc]
theorem ba33 (a : List UInt8) : (⟨a.toArray⟩ : ByteArray) ++ ⟨#[33]⟩ = ⟨(a ++ [33]).toArray⟩ := ba_app a [33]
theorem ba40 (a : List UInt8) : (⟨a.toArray⟩ : ByteArray) ++ ⟨#[40]⟩ = ⟨(a ++ [40]).toArray⟩ := ba_app a [40]
theorem ba58 (a : List UInt8) : (⟨a.toArray⟩ : ByteArray) ++ ⟨#[58]⟩ = ⟨(a ++ [58]).toArray⟩ := ba_app a [58]
theorem VRsAt.none {base : Nat} {v : Value} {rs : List Sv.Rule} {w w' : World} (h : VRsAt base v rs w) (hg : w.grownBy w' none) : VRsAt base v rs w' := h.row hg (RowOk.none 0 0 w) (by decide) (by decide) (by decide)
theorem VTsAt.none {base : Nat} {v : Value} {ts : List Sv.Term} {w w' : World} (h : VTsAt base v ts w) (hg : w.grownBy w' none) : VTsAt base v ts w' := h.row hg (RowOk.none 0 0 w) (by decide)

set_option maxRecDepth 100000 in
set_option maxHeartbeats 1000000 in
theorem vplain_good (s : ByteArray) (w : World) (hm : s.size ≤ maxLen) (hs : ¬ 400 < s.size) (rs : List Sv.Rule) (hr : Sv.rules s.data.toList = .inr rs) (hx : Sv.ex rs = false) :
    Calls Tryz.prog 50 #[.string s] w fun e w' => e = .returned (.tuple #[.string ⟨(Sv.pl rs).toArray⟩, .int .i64 rs.length, .int .i64 0]) ∧ w.grownBy w' none := by
  have hbd := Sv.rules_rBd _ rs hr
  have hsh := Sv.rules_rSh _ rs hr
  have hlen := Sv.pl_len rs hbd hx
  have hrl : rs.length ≤ 8 := by
    unfold Sv.ex at hx
    rw [Bool.or_eq_false_iff] at hx
    simpa using hx.1
  have HR := hide hr
  have HX := hide hx
  have HS := hide hs
  have HB := hide hbd
  have HH := hide hsh
  have HL := hide hlen
  clear hr hx hs hbd hsh hlen
  go_enter Tryz.func50, Tryz.ntmps50
  go_wp2_with fail
  refine (vparse_w s w hm).mono ?_
  rintro e w1 ⟨hg1, hpost⟩
  rw [if_neg (unhide HS), unhide HR] at hpost
  simp only at hpost
  rw [unhide HX, if_neg (by simp)] at hpost
  obtain ⟨u, rfl, hrs⟩ := hpost
  obtain ⟨ao, cap, rfl⟩ := hrs.slice
  have hrs' : VRsAt 0 (.slice ao rs.length cap) rs w1 := hrs.weak (Nat.zero_le _)
  clear hrs
  go_wp2
  go_loopw [8, 9] (fun x y w' => ∃ (k : Nat) (t : ByteArray), k ≤ rs.length ∧ x = .string t ∧ y = .int .i64 k ∧ t = ⟨((rs.take k).flatMap Sv.plR).toArray⟩ ∧ w.grownBy w' none ∧ VRsAt 0 (.slice ao rs.length cap) rs w') (fun _ y _ => rs.length - (intOf y).toNat)
  case atStart => exact ⟨0, _, Nat.zero_le _, rfl, rfl, by simp, hg1, hrs'⟩
  case round =>
    clear hg1 hrs'
    obtain ⟨k, t, hk, rfl, rfl, ht, hg, hrs⟩ := hrel
    by_cases hlt : k < rs.length
    · have hd : decide (k < rs.length) = true := by simpa using hlt
      obtain ⟨q, hq⟩ : ∃ q, rs[k]? = some q := ⟨rs[k], List.getElem?_eq_getElem hlt⟩
      have hqm := List.mem_of_getElem? hq
      have hqb := unhide HB q hqm
      have hqs := (unhide HH q hqm).1
      have hsn := fm_snoc Sv.plR rs k q hq
      have hle := fm_le Sv.plR rs (k + 1)
      have hle2 : (rs.flatMap Sv.plR).length ≤ 8000 := unhide HL
      rw [hsn, List.length_append] at hle
      have HSN := hide hsn
      clear hsn
      generalize hXX : (rs.take k).flatMap Sv.plR = X at *
      have hXq : X.length + (Sv.plR q).length ≤ 8000 := by omega
      have HPR : Hid (Sv.plR q = q.name ++ [58] ++ q.conds.flatMap Sv.plC ++ [59, 10]) := rfl
      have hXn : X.length + q.name.length + (q.conds.flatMap Sv.plC).length + 3 ≤ 8000 := by
        have := congrArg List.length (unhide HPR)
        simp only [List.length_append, List.length_cons, List.length_nil] at this
        omega
      have hcl : q.conds.length ≤ 8000 := by
        have := fm_ge Sv.plC plC_ge q.conds
        omega
      obtain ⟨g, cap', ao2, cap2, hv, q0, q1, hcs⟩ := hrs.cells hq
      simp only [Value.slice.injEq, true_and] at hv
      obtain ⟨rfl, rfl⟩ := hv
      obtain ⟨nm, hnm⟩ : ∃ nm : ByteArray, nm = ⟨q.name.toArray⟩ := ⟨_, rfl⟩
      rw [← hnm] at q0
      have hnms : nm.size ≤ 8000 := by rw [hnm, size_of]; omega
      have hts : t.size ≤ 8000 := by rw [ht, size_of]; omega
      have HNM := hide hnm
      have HT := hide ht
      have HQ := hide hq
      have HXE := hide hXX
      clear hnm ht hq hXX hle hle2 hqm
      obtain ⟨wo, rfl⟩ : ∃ wo : World, wo = wr := ⟨_, rfl⟩
      go_wp2
      go_loopw [8, 10] (fun x z w' => ∃ (k2 : Nat) (t2 : ByteArray), k2 ≤ q.conds.length ∧ x = .string t2 ∧ z = .int .i64 k2 ∧ t2 = ⟨(X ++ q.name ++ [58] ++ (q.conds.take k2).flatMap Sv.plC).toArray⟩ ∧ w.grownBy w' none ∧ VRsAt 0 (.slice (some ⟨g, 0, none⟩) rs.length cap) rs w') (fun _ z _ => q.conds.length - (intOf z).toNat)
      case atStart =>
        refine ⟨0, _, Nat.zero_le _, rfl, rfl, ?_, hg, hrs⟩
        rw [unhide HT, unhide HNM, ba_app, List.take_zero, List.flatMap_nil, List.append_nil]
        exact ba_app _ _
      case round =>
        clear hg hrs q0 q1 hcs HT hts
        obtain ⟨k2, t2, hk2, rfl, rfl, ht2, hg, hrs⟩ := hrel
        obtain ⟨g', cap'', ao2, cap2, hv, q0, q1, hcs⟩ := hrs.cells (unhide HQ)
        simp only [Value.slice.injEq, true_and, Option.some.injEq, Addr.mk.injEq, and_true] at hv
        obtain ⟨rfl, rfl⟩ := hv
        by_cases hlt2 : k2 < q.conds.length
        · have hd2 : decide (k2 < q.conds.length) = true := by simpa using hlt2
          obtain ⟨c, hc⟩ : ∃ c, q.conds[k2]? = some c := ⟨q.conds[k2], List.getElem?_eq_getElem hlt2⟩
          have hcm := List.mem_of_getElem? hc
          obtain ⟨hckd, hctok⟩ := hqb.1 c hcm
          have hcsh := (hqs c hcm).2
          have hsn2 := fm_snoc Sv.plC q.conds k2 c hc
          have hle3 := fm_le Sv.plC q.conds (k2 + 1)
          rw [hsn2, List.length_append] at hle3
          obtain ⟨g2, cap3, ao3, cap4, hv2, p0, p1, p2, hts⟩ := hcs.cells hc
          simp only [Value.slice.injEq, true_and] at hv2
          obtain ⟨rfl, rfl⟩ := hv2
          have hts2 : t2.size ≤ 8000 := by
            rw [ht2, size_of]; simp only [List.length_append, List.length_singleton]; omega
          have HSN2 := hide hsn2
          have HT2 := hide ht2
          have HPC : Hid (Sv.plC c = (if c.neg = true then [33] else []) ++ [40] ++ Lib.itoa c.kind ++ Sv.tms c.terms ++ [41]) := rfl
          have htg := Sv.tms_ge c.terms
          have hilk := Lib.itoa_length_le (c.kind : Int) (by omega) (by omega)
          clear hc hcm hsn2 ht2
          cases hneg : c.neg
          · rw [hneg] at p0
            have hg3w := World.grownBy_alloc wr (.cells #[.bool false, .int .i64 c.kind, .slice ao3 c.terms.length cap4] 166) none
            have hC0 : C3 166 wr.heap.size (.bool false) (.int .i64 c.kind) (.slice ao3 c.terms.length cap4) (wr.alloc (.cells #[.bool false, .int .i64 c.kind, .slice ao3 c.terms.length cap4] 166)) := heap_alloc_new _ _
            go_wp2_with fail
            refine (digits_w (c.kind : Int) (by omega) (by omega) _).mono ?_
            rintro e w3 ⟨rfl, hg3⟩
            have hC3 := hC0.kept hg3 (by simp)
            have hts3 := (hts.none hg3w).none hg3
            have hrs3 := (hrs.none hg3w).none hg3
            have hg03 := gr_trans (gr_trans hg hg3w) hg3
            have hNlt : wr.heap.size < w3.heap.size := hC3.lt
            clear hC0 hg3w hg3 hts hrs hg q0 q1 hcs p0 p1 p2
            generalize wr.heap.size = N at *
            obtain ⟨dk, hdk⟩ : ∃ dk : ByteArray, dk = ⟨(Lib.itoa c.kind).toArray⟩ := ⟨_, rfl⟩
            rw [← hdk]
            have hdks : dk.size ≤ 21 := by rw [hdk, size_of]; exact hilk
            have HDK := hide hdk
            clear hdk
            obtain ⟨Y1, hY1⟩ : ∃ Y1, X ++ q.name ++ [58] ++ (q.conds.take k2).flatMap Sv.plC ++ [] ++ [40] ++ Lib.itoa c.kind = Y1 := ⟨_, rfl⟩
            have hY1l : Y1.length + (Sv.tms c.terms).length + 1 ≤ 8000 := by
              rw [← hY1]
              have h8 := congrArg List.length (unhide HPC)
              simp only [List.length_append, List.length_cons, List.length_nil] at h8 ⊢
              rw [hneg] at h8
              simp at h8
              omega
            have HY1 := hide hY1
            clear hY1
            go_wp2
            go_loopw [8, 12] (fun x y w' => ∃ (k3 : Nat) (t3 : ByteArray), k3 ≤ c.terms.length ∧ x = .string t3 ∧ y = .int .i64 k3 ∧ t3 = ⟨(Y1 ++ Sv.tms (c.terms.take k3)).toArray⟩ ∧ w.grownBy w' none ∧ VRsAt 0 (.slice (some ⟨g, 0, none⟩) rs.length cap) rs w' ∧ C3 166 N (.bool false) (.int .i64 c.kind) (.slice ao3 c.terms.length cap4) w' ∧ VTsAt 0 (.slice ao3 c.terms.length cap4) c.terms w') (fun _ y _ => c.terms.length - (intOf y).toNat)
            case atStart =>
              refine ⟨0, _, Nat.zero_le _, rfl, rfl, ?_, hg03, hrs3, hC3, hts3⟩
              rw [unhide HT2, unhide HDK, ← unhide HY1]
              simp only [List.take_zero, Sv.tms, List.flatMap_nil, List.append_nil]
              rw [ba40, ba_app]
            case round =>
              clear hg03 hrs3 hC3 hts3 hts2
              obtain ⟨k3, t3, hk3, rfl, rfl, ht3, hg, hrs, hC, hts⟩ := hrel
              have dC := hC.c.2.2
              by_cases hlt3 : k3 < c.terms.length
              · have hd3 : decide (k3 < c.terms.length) = true := by simpa using hlt3
                obtain ⟨tm, htm⟩ : ∃ tm, c.terms[k3]? = some tm := ⟨c.terms[k3], List.getElem?_eq_getElem hlt3⟩
                have htmm := List.mem_of_getElem? htm
                obtain ⟨hv1, hv2⟩ := hctok tm htmm
                have hshp := hcsh tm htmm
                have hsn3 := Sv.tms_snoc c.terms k3 tm htm
                have hle3 := Sv.tms_le c.terms (k3 + 1)
                have hl3 : t3.size = Y1.length + (Sv.tms (c.terms.take k3)).length := by rw [ht3, size_of, List.length_append]
                have hl4 : (Sv.tms (c.terms.take (k3 + 1))).length = (Sv.tms (c.terms.take k3)).length + 1 + (Sv.plT tm).length := by
                  rw [hsn3, List.length_append, List.length_cons, Nat.add_comm (Sv.plT tm).length 1, Nat.add_assoc]
                have hl5 : (Sv.plT tm).length ≤ 8000 := by omega
                have hl6 : t3.size ≤ 8000 := by omega
                obtain ⟨g3, cap5, hv3, r0, r1, r2⟩ := hts.cells htm
                simp only [Value.slice.injEq, true_and] at hv3
                obtain ⟨rfl, rfl⟩ := hv3
                have HSN3 := hide hsn3
                have HT3 := hide ht3
                clear hsn3 ht3 htm htmm hle3 hl3 hl4
                have hgt := World.grownBy_alloc wr (.cells #[.int .u8 tm.letter.toNat, .int .i64 tm.value, .bool (tm.sort == 0)] 169) none
                rcases hshp with h0 | ⟨h0, h1⟩ | ⟨h0, h1⟩
                · have hpl : Sv.plT tm = [95] := by unfold Sv.plT; rw [if_pos h0]
                  have hb0 : (tm.sort == 0) = true := by rw [h0]; rfl
                  rw [hb0] at r2 hgt
                  have HPL := hide hpl
                  clear hpl h0 hb0 hl5
                  go_wp2
                  go_roundw
                  case rel =>
                    refine ⟨k3 + 1, _, by omega, rfl, by go_num, ?_, gr_trans hg hgt, hrs.none hgt, hC.kept hgt (by simp), hts.none hgt⟩
                    rw [unhide HSN3, unhide HPL, unhide HT3, ← List.append_assoc]
                    exact ba_app _ _
                  case measure => simp [intOf]; omega
                · have hpl : Sv.plT tm = [tm.letter] := by unfold Sv.plT; rw [if_neg (by omega), if_pos h0]
                  have hb0 : (tm.sort == 0) = false := by rw [h0]; rfl
                  rw [hb0] at r2 hgt
                  have hlet : decide ((0 : Int) < (tm.letter.toNat : Int)) = true := by simp; omega
                  have HPL := hide hpl
                  have hcv := one_byte (wr.alloc (.cells #[.int .u8 tm.letter.toNat, .int .i64 tm.value, .bool false] 169)) tm.letter
                  rw [World.size_alloc] at hcv
                  clear hpl h0 hb0 hl5
                  go_wp2
                  go_roundw
                  case rel =>
                    have hgt2 := gr_trans hgt (World.grownBy_alloc _ (.cells #[.int .u8 tm.letter.toNat] 5) none)
                    refine ⟨k3 + 1, _, by omega, rfl, by go_num, ?_, gr_trans hg hgt2, hrs.none hgt2, hC.kept hgt2 (by simp), hts.none hgt2⟩
                    rw [unhide HSN3, unhide HPL, unhide HT3, ← List.append_assoc]
                    exact ba3 _ [32] [tm.letter]
                  case measure => simp [intOf]; omega
                · have hpl : Sv.plT tm = Lib.itoa tm.value := by unfold Sv.plT; rw [if_neg (by omega), if_neg (by omega), if_pos h0]
                  have hb0 : (tm.sort == 0) = false := by rw [h0]; rfl
                  rw [hb0] at r2 hgt
                  rw [h1] at r0 hgt
                  rw [hpl] at hl5
                  have HPL := hide hpl
                  clear hpl h0 hb0
                  go_wp2_with fail
                  refine (digits_w tm.value (by omega) (by omega) _).mono ?_
                  rintro e w4 ⟨rfl, hg4⟩
                  have hgt2 := gr_trans hgt hg4
                  obtain ⟨dv, hdv⟩ : ∃ dv : ByteArray, dv = ⟨(Lib.itoa tm.value).toArray⟩ := ⟨_, rfl⟩
                  rw [← hdv]
                  have hdvs : dv.size ≤ 8000 := by rw [hdv, size_of]; exact hl5
                  have HDV := hide hdv
                  clear hdv
                  go_wp2
                  go_roundw
                  case rel =>
                    refine ⟨k3 + 1, _, by omega, rfl, by go_num, ?_, gr_trans hg hgt2, hrs.none hgt2, hC.kept hgt2 (by simp), hts.none hgt2⟩
                    rw [unhide HSN3, unhide HPL, unhide HT3, unhide HDV, ← List.append_assoc]
                    exact ba3 _ [32] (Lib.itoa tm.value)
                  case measure => simp [intOf]; omega
              · obtain rfl : k3 = c.terms.length := by omega
                have hd3 : decide (c.terms.length < c.terms.length) = false := by simp
                rw [List.take_length] at ht3
                have hl3 : t3.size ≤ 8000 := by rw [ht3, size_of, List.length_append]; omega
                have HT3 := hide ht3
                clear ht3 hlt3
                go_wp2
                go_roundw
                case rel =>
                  refine ⟨k2 + 1, _, by omega, rfl, by go_num, ?_, hg, hrs⟩
                  rw [unhide HSN2, unhide HPC, hneg, unhide HT3, ← unhide HY1]
                  refine (ba_app _ _).trans ?_
                  simp only [List.append_assoc, if_false, Bool.false_eq_true, List.nil_append]
                case measure => simp [intOf]; omega
          · rw [hneg] at p0
            have hg3w := World.grownBy_alloc wr (.cells #[.bool true, .int .i64 c.kind, .slice ao3 c.terms.length cap4] 166) none
            have hC0 : C3 166 wr.heap.size (.bool true) (.int .i64 c.kind) (.slice ao3 c.terms.length cap4) (wr.alloc (.cells #[.bool true, .int .i64 c.kind, .slice ao3 c.terms.length cap4] 166)) := heap_alloc_new _ _
            go_wp2_with fail
            refine (digits_w (c.kind : Int) (by omega) (by omega) _).mono ?_
            rintro e w3 ⟨rfl, hg3⟩
            have hC3 := hC0.kept hg3 (by simp)
            have hts3 := (hts.none hg3w).none hg3
            have hrs3 := (hrs.none hg3w).none hg3
            have hg03 := gr_trans (gr_trans hg hg3w) hg3
            have hNlt : wr.heap.size < w3.heap.size := hC3.lt
            clear hC0 hg3w hg3 hts hrs hg q0 q1 hcs p0 p1 p2
            generalize wr.heap.size = N at *
            obtain ⟨dk, hdk⟩ : ∃ dk : ByteArray, dk = ⟨(Lib.itoa c.kind).toArray⟩ := ⟨_, rfl⟩
            rw [← hdk]
            have hdks : dk.size ≤ 21 := by rw [hdk, size_of]; exact hilk
            have HDK := hide hdk
            clear hdk
            obtain ⟨Y1, hY1⟩ : ∃ Y1, X ++ q.name ++ [58] ++ (q.conds.take k2).flatMap Sv.plC ++ [33] ++ [40] ++ Lib.itoa c.kind = Y1 := ⟨_, rfl⟩
            have hY1l : Y1.length + (Sv.tms c.terms).length + 1 ≤ 8000 := by
              rw [← hY1]
              have h8 := congrArg List.length (unhide HPC)
              simp only [List.length_append, List.length_cons, List.length_nil] at h8 ⊢
              rw [hneg] at h8
              simp at h8
              omega
            have HY1 := hide hY1
            clear hY1
            go_wp2
            go_loopw [8, 12] (fun x y w' => ∃ (k3 : Nat) (t3 : ByteArray), k3 ≤ c.terms.length ∧ x = .string t3 ∧ y = .int .i64 k3 ∧ t3 = ⟨(Y1 ++ Sv.tms (c.terms.take k3)).toArray⟩ ∧ w.grownBy w' none ∧ VRsAt 0 (.slice (some ⟨g, 0, none⟩) rs.length cap) rs w' ∧ C3 166 N (.bool true) (.int .i64 c.kind) (.slice ao3 c.terms.length cap4) w' ∧ VTsAt 0 (.slice ao3 c.terms.length cap4) c.terms w') (fun _ y _ => c.terms.length - (intOf y).toNat)
            case atStart =>
              refine ⟨0, _, Nat.zero_le _, rfl, rfl, ?_, hg03, hrs3, hC3, hts3⟩
              rw [unhide HT2, unhide HDK, ← unhide HY1]
              simp only [List.take_zero, Sv.tms, List.flatMap_nil, List.append_nil]
              rw [ba33, ba40, ba_app]
            case round =>
              clear hg03 hrs3 hC3 hts3 hts2
              obtain ⟨k3, t3, hk3, rfl, rfl, ht3, hg, hrs, hC, hts⟩ := hrel
              have dC := hC.c.2.2
              by_cases hlt3 : k3 < c.terms.length
              · have hd3 : decide (k3 < c.terms.length) = true := by simpa using hlt3
                obtain ⟨tm, htm⟩ : ∃ tm, c.terms[k3]? = some tm := ⟨c.terms[k3], List.getElem?_eq_getElem hlt3⟩
                have htmm := List.mem_of_getElem? htm
                obtain ⟨hv1, hv2⟩ := hctok tm htmm
                have hshp := hcsh tm htmm
                have hsn3 := Sv.tms_snoc c.terms k3 tm htm
                have hle3 := Sv.tms_le c.terms (k3 + 1)
                have hl3 : t3.size = Y1.length + (Sv.tms (c.terms.take k3)).length := by rw [ht3, size_of, List.length_append]
                have hl4 : (Sv.tms (c.terms.take (k3 + 1))).length = (Sv.tms (c.terms.take k3)).length + 1 + (Sv.plT tm).length := by
                  rw [hsn3, List.length_append, List.length_cons, Nat.add_comm (Sv.plT tm).length 1, Nat.add_assoc]
                have hl5 : (Sv.plT tm).length ≤ 8000 := by omega
                have hl6 : t3.size ≤ 8000 := by omega
                obtain ⟨g3, cap5, hv3, r0, r1, r2⟩ := hts.cells htm
                simp only [Value.slice.injEq, true_and] at hv3
                obtain ⟨rfl, rfl⟩ := hv3
                have HSN3 := hide hsn3
                have HT3 := hide ht3
                clear hsn3 ht3 htm htmm hle3 hl3 hl4
                have hgt := World.grownBy_alloc wr (.cells #[.int .u8 tm.letter.toNat, .int .i64 tm.value, .bool (tm.sort == 0)] 169) none
                rcases hshp with h0 | ⟨h0, h1⟩ | ⟨h0, h1⟩
                · have hpl : Sv.plT tm = [95] := by unfold Sv.plT; rw [if_pos h0]
                  have hb0 : (tm.sort == 0) = true := by rw [h0]; rfl
                  rw [hb0] at r2 hgt
                  have HPL := hide hpl
                  clear hpl h0 hb0 hl5
                  go_wp2
                  go_roundw
                  case rel =>
                    refine ⟨k3 + 1, _, by omega, rfl, by go_num, ?_, gr_trans hg hgt, hrs.none hgt, hC.kept hgt (by simp), hts.none hgt⟩
                    rw [unhide HSN3, unhide HPL, unhide HT3, ← List.append_assoc]
                    exact ba_app _ _
                  case measure => simp [intOf]; omega
                · have hpl : Sv.plT tm = [tm.letter] := by unfold Sv.plT; rw [if_neg (by omega), if_pos h0]
                  have hb0 : (tm.sort == 0) = false := by rw [h0]; rfl
                  rw [hb0] at r2 hgt
                  have hlet : decide ((0 : Int) < (tm.letter.toNat : Int)) = true := by simp; omega
                  have HPL := hide hpl
                  have hcv := one_byte (wr.alloc (.cells #[.int .u8 tm.letter.toNat, .int .i64 tm.value, .bool false] 169)) tm.letter
                  rw [World.size_alloc] at hcv
                  clear hpl h0 hb0 hl5
                  go_wp2
                  go_roundw
                  case rel =>
                    have hgt2 := gr_trans hgt (World.grownBy_alloc _ (.cells #[.int .u8 tm.letter.toNat] 5) none)
                    refine ⟨k3 + 1, _, by omega, rfl, by go_num, ?_, gr_trans hg hgt2, hrs.none hgt2, hC.kept hgt2 (by simp), hts.none hgt2⟩
                    rw [unhide HSN3, unhide HPL, unhide HT3, ← List.append_assoc]
                    exact ba3 _ [32] [tm.letter]
                  case measure => simp [intOf]; omega
                · have hpl : Sv.plT tm = Lib.itoa tm.value := by unfold Sv.plT; rw [if_neg (by omega), if_neg (by omega), if_pos h0]
                  have hb0 : (tm.sort == 0) = false := by rw [h0]; rfl
                  rw [hb0] at r2 hgt
                  rw [h1] at r0 hgt
                  rw [hpl] at hl5
                  have HPL := hide hpl
                  clear hpl h0 hb0
                  go_wp2_with fail
                  refine (digits_w tm.value (by omega) (by omega) _).mono ?_
                  rintro e w4 ⟨rfl, hg4⟩
                  have hgt2 := gr_trans hgt hg4
                  obtain ⟨dv, hdv⟩ : ∃ dv : ByteArray, dv = ⟨(Lib.itoa tm.value).toArray⟩ := ⟨_, rfl⟩
                  rw [← hdv]
                  have hdvs : dv.size ≤ 8000 := by rw [hdv, size_of]; exact hl5
                  have HDV := hide hdv
                  clear hdv
                  go_wp2
                  go_roundw
                  case rel =>
                    refine ⟨k3 + 1, _, by omega, rfl, by go_num, ?_, gr_trans hg hgt2, hrs.none hgt2, hC.kept hgt2 (by simp), hts.none hgt2⟩
                    rw [unhide HSN3, unhide HPL, unhide HT3, unhide HDV, ← List.append_assoc]
                    exact ba3 _ [32] (Lib.itoa tm.value)
                  case measure => simp [intOf]; omega
              · obtain rfl : k3 = c.terms.length := by omega
                have hd3 : decide (c.terms.length < c.terms.length) = false := by simp
                rw [List.take_length] at ht3
                have hl3 : t3.size ≤ 8000 := by rw [ht3, size_of, List.length_append]; omega
                have HT3 := hide ht3
                clear ht3 hlt3
                go_wp2
                go_roundw
                case rel =>
                  refine ⟨k2 + 1, _, by omega, rfl, by go_num, ?_, hg, hrs⟩
                  rw [unhide HSN2, unhide HPC, hneg, unhide HT3, ← unhide HY1]
                  refine (ba_app _ _).trans ?_
                  simp only [List.append_assoc, if_true]
                case measure => simp [intOf]; omega
        · obtain rfl : k2 = q.conds.length := by omega
          have hd2 : decide (q.conds.length < q.conds.length) = false := by simp
          rw [List.take_length] at ht2
          have HT2 := hide ht2
          have hts2 : t2.size ≤ 8000 := by
            rw [ht2, size_of]; simp only [List.length_append, List.length_singleton]; omega
          clear ht2 hlt2
          go_wp2
          go_roundw
          case rel =>
            refine ⟨k + 1, _, by omega, rfl, by go_num, ?_, hg, hrs⟩
            rw [unhide HSN, unhide HPR, unhide HT2]
            refine (ba_app _ _).trans ?_
            simp only [List.append_assoc]
          case measure => simp [intOf]; omega
    · obtain rfl : k = rs.length := by omega
      have hd : decide (rs.length < rs.length) = false := by simp
      rw [List.take_length] at ht
      have HT := hide ht
      clear ht hlt
      go_wp2
      go_ret3
      exact ⟨by rw [show Sv.pl rs = rs.flatMap Sv.plR from rfl, ← unhide HT]; rfl, hg⟩

end Go.Proofs.YtolhbeekfjnfmaaGreatDoor

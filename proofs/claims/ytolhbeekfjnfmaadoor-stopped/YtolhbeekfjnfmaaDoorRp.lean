/- The row of Stopped, and its card. -/
import Derived.Test.YtolhbeekfjnfmaaDoorWs
import Derived.Test.YtolhbeekfjnfmaaDoorRows
import Derived.Test.YtolhbeekfjnfmaaDoorCards
import Derived.Test.YtolhbeekfjnfmaaDoorTie
import Derived.ProofKit
import Derived.LaidMore
import Derived.LaidHandle
import Derived.Stop.Joined
import Derived.Stop.LaidTwo
import Derived.SizedLaws
import Derived.SevenTiedAt
import Derived.Lib.LaidTab
namespace Go.Proofs.YtolhbeekfjnfmaaDoor
open Go.ChangeShapes Go.WideShapes Go.ChangeAt Go.RowKit
open Go.WideMaps Go.WideElems
open Go.ChangeMaps (open_string shut_string)

theorem Tryd.own : ownKnob Tryd.prog.godebug = none := by kernel_rfl
theorem Tryd.gEt : Tryd.prog.globalNamed "errors.errorType" = some 1 := by kernel_rfl
theorem Tryd.gTx : Tryd.prog.globalNamed "sieve/rules.ErrText" = some 2 := by kernel_rfl
theorem Tryd.gLm : Tryd.prog.globalNamed "sieve/rules.ErrLimit" = some 0 := by kernel_rfl
theorem Tryd.tTx : (Tryd.prog.globals[2]?).map (·.type) = some 28 := by kernel_rfl
theorem Tryd.tLm : (Tryd.prog.globals[0]?).map (·.type) = some 28 := by kernel_rfl
theorem Tryd.tPw : (Tryd.prog.globals[3]?).map (·.type) = some 124 := by kernel_rfl
theorem Tryd.rt : (Tryd.prog.cutTypes.find? (·.1 == "internal/reflectlite.rtype")).map (·.2) = some 85 := by kernel_rfl
theorem Tryd.oneRow : ((List.range 164).filter fun t => Tryd.prog.rowNamed t [101, 114, 114, 111, 114]) = [28] := by kernel_rfl
theorem Tryd.size : Tryd.prog.types.size = 164 := by kernel_rfl
theorem Tryd.cellsES : Tryd.prog.cellsOf 152 = 1 := by kernel_rfl
theorem Tryd.cellsS : Tryd.prog.cellsOf 9 = 1 := by kernel_rfl
theorem Tryd.cells64 : Tryd.prog.cellsOf 117 = 1 := by kernel_rfl
theorem Tryd.cellsA : Tryd.prog.cellsOf 124 = 20 := by kernel_rfl
theorem Tryd.handleErr : typeHandle Tryd.prog 28 = .pointer (some ⟨6, 28, none⟩) := by kernel_rfl
theorem pow_data : (Rows.laid_internal_strconv_uint64pow10 : DataW Unit) = Lib.tabData .u64 Lib.pow10Tab := by kernel_rfl

/-- The list of what the text lays. -/
def laidList : List (String × DataW Unit) := Rows.stoppedRow.laid

theorem door_met (os : Os) (args : Array Value) : laidMetH Tryd.prog laidList ((World.doorLaid Tryd.prog 400 os).forCall (fun _ _ => 0) ⟨#[], args, []⟩).memory :=
  laidMetH_of_parts3 (fuel := 8) (laidMet_of_run' 8 (by kernel_rfl) (by kernel_rfl)) (by kernel_rfl) (by kernel_rfl)

theorem Tryd.star : ("*" ++ "errors.errorString" : String) = "*errors.errorString" := by decide +kernel
theorem Tryd.rowES (u : TypeId) (h : Tryd.prog.typeName? 3 u = some "*errors.errorString") : u = 133 :=
  typeName_ptr_named (nm := "errors.errorString") (by rw [Tryd.star]; kernel_rfl) (by kernel_rfl) (by decide) u (by rw [Tryd.star]; exact h)

theorem of_laid {W : World} (h : laidMetH Tryd.prog laidList W) : ∃ aT aL, LD aT aL W ∧ 3 < W.heap.size := by
  have h' : laidMet Tryd.prog [("math/bits.deBruijn32tab", Rows.laid_math_bits_deBruijn32tab), ("math/bits.deBruijn64tab", Rows.laid_math_bits_deBruijn64tab), ("internal/strconv.uint64pow10", Rows.laid_internal_strconv_uint64pow10), ("sieve/rules.ErrText", Rows.laid_sieve_rules_ErrText), ("sieve/rules.ErrLimit", Rows.laid_sieve_rules_ErrLimit)] W ∧ handlesMet Tryd.prog [("errors.errorType", Rows.laid_errors_errorType)] W := h
  obtain ⟨hd, hh⟩ := h'
  have h3 := hd.tail.tail
  have htab : Lib.TabIs Tryd.prog W "internal/strconv.uint64pow10" .u64 Lib.pow10Tab := Lib.tabIs_of_head Tryd.powIs Tryd.tPw Tryd.underlying124 Tryd.underlying117 Tryd.cells64 Tryd.cellsA (by rw [← pow_data]; exact h3)
  obtain ⟨a0, a1, s0, s1, c0, c1, t0, t1, hv0, hv1, hc0, hs0, hz0, hc1, hs1, hz1, hne, hb0, hb1⟩ := laid_sentinels2 h3.tail Tryd.gTx Tryd.tTx Tryd.gLm Tryd.tLm Tryd.underlying28 Tryd.rowES Tryd.underlying133 Tryd.underlying152 rfl rfl Tryd.underlying9 Tryd.cellsES Tryd.cellsS
  obtain ⟨name, u, ty, e1, e2, e3, e4, e5⟩ := hh _ (List.mem_singleton.2 rfl)
  have en : name = [101, 114, 114, 111, 114] := (Option.some.inj e1).symm
  subst en
  obtain rfl := Option.some.inj (Tryd.rt.symm.trans e2)
  have hm : ty ∈ (List.range 164).filter fun t => Tryd.prog.rowNamed t [101, 114, 114, 111, 114] := List.mem_filter.2 ⟨List.mem_range.2 (by rw [← Tryd.size]; exact e3), e4⟩
  rw [Tryd.oneRow] at hm
  obtain rfl := List.mem_singleton.1 hm
  rw [Tryd.handleErr] at e5
  have hpw : 3 < W.heap.size := by
    unfold Lib.TabIs World.var? at htab
    rw [Tryd.powIs] at htab
    simp only [Option.bind_some] at htab
    rcases Nat.lt_or_ge 3 W.heap.size with hl | hl
    · exact hl
    · rw [Array.getElem?_eq_none hl] at htab; cases htab
  exact ⟨a0, a1, ⟨by simpa using World.var?_cell Tryd.gTx hv0 0, by simpa using World.var?_cell Tryd.gLm hv1 0, hne, ⟨c0, t0, hb0⟩, ⟨c1, t1, hb1⟩, by simpa using World.var?_cell Tryd.gEt e5 0, htab⟩, hpw⟩

set_option maxRecDepth 100000 in
theorem stopped_lifted (os : Os) (started : os.Started) (H : Type) (enc : TypeId × Value → H) :
    ReturnsInHanded {} Tryd.checked os 3 .any (fun w args => (Rows.stoppedSpec.pre enc Tryd.prog Tryd.f3 [] false w args ∧ laidMetH Tryd.prog laidList w) ∧ sizedMet enc Tryd.prog Tryd.f3 (OpenSpec.ofChange Rows.stoppedSpec) false w args)
      (Rows.stoppedSpec.post enc Tryd.prog Tryd.f3 false true false false) := by
  refine returnsInHanded_of_change_and (C := Tryd.checked) (X := fun w _ => laidMetH Tryd.prog laidList w) (fun _ _ _ hh h => h.of_heap hh) Tryd.own started (by kernel_rfl) Tryd.func3
    (ChangeSpec.witness_shaped (enc := enc) (C := Tryd.checked) (os := os) (X := fun w _ => laidMetH Tryd.prog laidList w) false (World.doorLaid Tryd.prog 400 os) #[.string ⟨#[]⟩, .string ⟨#[]⟩] 8 rfl (World.shaped_of_RefB (by kernel_rfl) (by kernel_rfl)) (by kernel_rfl) (by kernel_rfl) (by kernel_rfl) (door_met os _)) ?_
  intro W base args ds gs before hval0 hW _ hsz hL _
  have hval : ∀ (j : Nat) t v, Tryd.f3.params[j]? = some t → args[j]? = some v → Value.okWide Tryd.prog W .any base t v := hval0
  have hW' := hW
  obtain ⟨p, q, hA0, hV, rfl, hfz, hnd⟩ := hW
  have hA : DataW.TrodAll enc Tryd.prog W 0 (fun _ => true) true Tryd.f3.params.toList args.toList ds p := hA0
  rw [Tryd.params3] at hA hval
  obtain ⟨v0, v1, d0, d1, p0, p1, rfl, rfl, rfl, h0, h1⟩ := trodAll_two hA
  obtain ⟨rfl, rfl⟩ := trodVars_none hV
  obtain ⟨s0, rfl, rfl, rfl, ws0⟩ := open_string Tryd.underlying9 (hval 0 9 v0 rfl rfl) h0
  obtain ⟨s1, rfl, rfl, rfl, ws1⟩ := open_string Tryd.underlying9 (hval 1 9 v1 rfl rfl) h1
  obtain ⟨aT, aL, hLD, hPw⟩ := of_laid hL
  have hs1 : s1.data.toList.length ≤ reachBytes := sized_string (j := 1) (t := 9) hsz rfl rfl
  have hs1' : s1.size ≤ 140737488355328 := by
    rw [size_list] at hs1
    have := reachBytes_lt
    omega
  simp only [List.append_nil] at hW'
  refine (stopped_w s0 s1 aT aL W hLD hPw ws0 hs1').mono fun e W' ⟨he, hg⟩ => ?_
  subst he
  refine ⟨_, rfl, _, _, _, [], [], [], hW', ?_, ?_, ?_, (below_gr hg).frame _, fun h => by cases h⟩
  · exact trodAll_mk1 (shut_bool Tryd.underlying4 true)
  · exact trodAll_mk2 (shut_string Tryd.underlying9 ws0) (shut_string Tryd.underlying9 ws1)
  · rfl

theorem stopped_holds : Rows.StoppedSaid :=
  OpenClaim.holds_of_wide 3 Tryd.f3 rfl rfl rfl rfl rfl rfl rfl ⟨rfl, rfl, rfl, rfl, rfl⟩ rfl rfl rfl rfl rfl (by kernel_rfl) Tryd.func3 (by kernel_rfl)
    (of_decide_eq_true (by kernel_rfl)) (by unfold Func.isWrapper; rw [if_neg (of_decide_eq_false (by kernel_rfl))]; exact ⟨rfl, rfl⟩)
    (fun os started H enc _ => stopped_lifted os started H enc)

theorem stopped_card_holds : Rows.StoppedCardSaid :=
  Claim7.holds_tied_plain_at .later [] [.data, .data, .data, .handle, .sentinel, .sentinel] true (true, "ceac0e82394cad2aa7fd1784aee4956b4e6f6e5f7946884a985499aaab840952") true
    stopped_holds (fun _ h => by cases h) (by kernel_rfl) (fun _ h => by cases h) stopped_row_tie rfl ⟨rfl, rfl⟩ (by kernel_rfl) rfl
    (fun f fn hf hfn => by
      obtain rfl : f = 3 := Option.some.inj ((show Tryd.prog.funcNamed "sieve/sievekeep.Stopped" = some 3 by kernel_rfl).symm.trans hf) |>.symm
      obtain rfl : fn = Tryd.f3 := (Option.some.inj (Tryd.func3.symm.trans hfn)).symm
      exact ⟨by kernel_rfl, fun j t ht => by
        rw [Tryd.params3] at ht
        have h3 : t = 9 := by
          rcases j with _ | _ | j
          · simpa using ht.symm
          · simpa using ht.symm
          · simp at ht
        subst h3
        exact (show Tryd.prog.wantsStandIn 9 = false by kernel_rfl)⟩)
    (by kernel_rfl)

end Go.Proofs.YtolhbeekfjnfmaaDoor

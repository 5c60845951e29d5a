/- The law FnExactPrintPath returns true for every argument and leaves it as it was, where the listed variables hold what the program's text lays; and the card that ties them to it. Conditions: the row's own. -/
import Derived.Test.YtoffondgdnmhkaaDoorRRRPrpLaw
import Derived.Test.YtoffondgdnmhkaaDoorRRROpenWw
import Derived.Test.YtoffondgdnmhkaaDoorRRRCards
import Derived.Test.YtoffondgdnmhkaaDoorRRRTie
import Derived.WalkKit
import Derived.ProofKit
import Derived.OpenShut
import Derived.Deep.DeepHandedRow
import Derived.Lib.LaidTab
import Derived.LaidMore
import Derived.Stop.LaidErr
import Derived.ChangeMaps5
namespace Go.Proofs.YtoffondgdnmhkaaDoorRRR
open Go.ChangeShapes Go.WideShapes Go.ChangeAt Go.RowKit
set_option linter.unusedVariables false
set_option linter.unusedSimpArgs false
set_option maxRecDepth 100000

theorem prp_holds_own : ownKnob Tryd.prog.godebug = none := by kernel_rfl
noncomputable def prp_holds_world (os : Os) : World := World.doorLaid Tryd.prog 2000 os
theorem prp_holds_met (os : Os) : laidMet Tryd.prog Rows.fnExactPrintPathRow.laid ((prp_holds_world os).forCall (fun _ _ => 0) ⟨#[], #[.slice none 0 0], []⟩).memory :=
  laidMet_of_run' 8 (by kernel_rfl) (by kernel_rfl)
theorem prp_holds_reads (os : Os) {H : Type} (enc : TypeId × Value → H) : ∃ places, DataW.whole enc Tryd.prog ((prp_holds_world os).forCall (fun _ _ => 0) ⟨#[], #[.slice none 0 0], []⟩).memory Tryd.f4.params.toList Rows.fnExactPrintPathSpec.vars false (#[.slice none 0 0] : Array Value).toList 8 = some ([.nil], [], places) :=
  ⟨[], by kernel_rfl⟩
theorem prp_holds_gt : (Tryd.prog.globals[0]?).map (·.type) = some 74 := by kernel_rfl
theorem prp_holds_c20 : Tryd.prog.cellsOf 74 = 20 := by kernel_rfl
theorem prp_holds_c1 : Tryd.prog.cellsOf 65 = 1 := by kernel_rfl
/-- What the row's list gives: the table of powers lies where it is laid. -/
theorem prp_holds_table {W : World} (h : laidMetH Tryd.prog Rows.fnExactPrintPathRow.laid W) : Tab15 W :=
  ⟨Lib.tabIs_of_head (rest := []) g15 prp_holds_gt Tryd.underlying74 Tryd.underlying65 prp_holds_c1 prp_holds_c20 (laidMet.tail (laidMet.tail h))⟩
theorem prp_holds_lifted (os : Os) (started : os.Started) (H : Type) (enc : TypeId × Value → H) (F : Stop.Interp) :
    ReturnsInHanded {} Tryd.checked os 4 .any ((OpenSpec.ofChange Rows.fnExactPrintPathSpec).preRow enc Tryd.prog Tryd.f4 Rows.fnExactPrintPathRow.domain false Rows.fnExactPrintPathRow.laid) (((OpenSpec.ofChange Rows.fnExactPrintPathSpec).at F).post enc Tryd.prog Tryd.f4 false true false false) := by
  obtain ⟨places, hx⟩ := prp_holds_reads os enc
  refine returnsInHanded_of_row (C := Tryd.checked) (s := OpenSpec.ofChange Rows.fnExactPrintPathSpec) prp_holds_own started (by kernel_rfl) Tryd.func4
    (witness_row_at (enc := enc) (C := Tryd.checked) false (prp_holds_world os) #[.slice none 0 0] rfl (by kernel_rfl) (by kernel_rfl) (by kernel_rfl)
      (OpenSpec.preRow_of_cond 8 hx (by kernel_rfl) (fun k hk => by cases hk) (by kernel_rfl) (prp_holds_met os))) ?_
  intro W base args ds gs before hval0 hW _ _ hsz hL hSh _
  have hval : ∀ (j : Nat) t v, Tryd.f4.params[j]? = some t → args[j]? = some v → Value.okWide Tryd.prog W .any base t v := hval0
  have hW' := hW
  obtain ⟨p, q, hA0, hV, rfl, hfz, hnd⟩ := hW
  have hA : DataW.TrodAll enc Tryd.prog W 0 (fun _ => true) true Tryd.f4.params.toList args.toList ds p := hA0
  rw [Tryd.params4] at hA hval
  obtain ⟨v0, vs0, d0, ds0, p0, q0, hargs, rfl, rfl, h0, r0⟩ := trodAll_cons hA
  obtain ⟨rfl, rfl, rfl⟩ := trodAll_nil r0
  obtain rfl : args = #[v0] := by cases args; simp_all
  obtain ⟨rfl, rfl⟩ := trodVars_none hV
  have lt0 : ∀ x ∈ p0, x.block < W.heap.size := by obtain ⟨m, hm⟩ := h0; exact DataW.trod_lt m _ _ _ hm
  obtain ⟨a0, n0, c0, xs0, rfl, sl0, hn0, hm0⟩ := open_WS (hval 0 25 v0 rfl rfl) h0
  clear hA0 hval0
  refine (lawPrintPath_walk a0 n0 c0 xs0 W sl0 hn0 hm0 (prp_holds_table hL)).mono fun e W' ⟨he, bel⟩ => ?_
  subst he
  exact ⟨_, rfl, _, _, _, [], _, [], hW', trodAll_mk1 (shut_bool Tryd.underlying4 _), (trodAll_cons_mk (Below.trod laidOut (by kernel_rfl) (of_decide_eq_true (by kernel_rfl)) h0 bel lt0) trodAll_mk0), rfl, bel.frame _, fun h => by cases h⟩
theorem prp_holds_row : Rows.FnExactPrintPathSaid :=
  OpenClaim.holds_of_cond 4 Tryd.f4 rfl rfl rfl rfl rfl rfl rfl ⟨rfl, rfl, rfl, rfl, rfl⟩ rfl rfl rfl rfl rfl (by kernel_rfl) Tryd.func4 (by kernel_rfl)
    (of_decide_eq_true (by kernel_rfl)) (by unfold Func.isWrapper; first | (rw [if_pos (by decide +kernel)]; kernel_rfl) | (rw [if_neg (by decide +kernel)]; exact ⟨rfl, rfl⟩))
    (fun os started H enc _ F => by rw [OpenClaim.pre_eq_preRow]; exact prp_holds_lifted os started H enc F)
/-- No parameter wants a stand-in; the program's own looks are off. -/
theorem prp_holds_plain (f : FuncId) (fn : Func) (hf : Tryd.pinned.checked.prog.funcNamed Rows.fnExactPrintPathRow.func = some f) (hfn : Tryd.pinned.checked.prog.funcs[f]? = some fn) :
    false = Tryd.pinned.checked.prog.looks [] ∧ ∀ (j : Nat) t, fn.params[j]? = some t → Tryd.pinned.checked.prog.wantsStandIn t = false := by
  obtain rfl : f = 4 := Option.some.inj ((show Tryd.prog.funcNamed Rows.fnExactPrintPathRow.func = some 4 by kernel_rfl).symm.trans hf) |>.symm
  obtain rfl : fn = Tryd.f4 := (Option.some.inj (Tryd.func4.symm.trans hfn)).symm
  refine ⟨by kernel_rfl, fun j t ht => ?_⟩
  rw [Tryd.params4] at ht
  have hm : t ∈ [25] := by simpa using Array.mem_of_getElem? ht
  have hall : ([25].all fun u => !Tryd.prog.wantsStandIn u) = true := by kernel_rfl
  exact (show Tryd.prog.wantsStandIn t = false by simpa using List.all_eq_true.1 hall t hm)
theorem prp_holds : Rows.FnExactPrintPathCardSaid :=
  Claim7.holds_tied_plain_at .later [] _ _ _ _ prp_holds_row (fun _ h => by cases h) (by kernel_rfl) (fun _ h => by cases h) fnExactPrintPath_row_tie rfl ⟨rfl, rfl⟩ (by kernel_rfl) rfl prp_holds_plain (by kernel_rfl)
#print axioms prp_holds
end Go.Proofs.YtoffondgdnmhkaaDoorRRR

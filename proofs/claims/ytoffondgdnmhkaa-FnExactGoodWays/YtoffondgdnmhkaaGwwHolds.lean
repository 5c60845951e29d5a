/- The law FnExactGoodWays returns true for every argument and leaves it as it was: the given statement FnExactGoodWaysSaid. No condition. -/
import Derived.Test.YtoffondgdnmhkaaGwwLaw
import Derived.Test.YtoffondgdnmhkaaIo
import Derived.Test.YtoffondgdnmhkaaOpenWw
namespace Go.Proofs.Ytoffondgdnmhkaa
open Go.ChangeShapes Go.WideShapes Go.ChangeAt Go.RowKit Go.Joins
set_option linter.unusedVariables false
set_option maxRecDepth 100000
set_option linter.unusedSimpArgs false

set_option maxRecDepth 100000 in
theorem gww_holds_lifted (os : Os) (started : os.Started) (H : Type) (enc : TypeId × Value → H) :
    ReturnsInHanded {} Try.checked os 3 .any (Rows.fnExactGoodWaysSpec.pre6 enc Try.prog Try.f3 Rows.fnExactGoodWaysRow.domain false) (Rows.fnExactGoodWaysSpec.post enc Try.prog Try.f3 false true false false) := by
  refine returnsInHanded_of_change (C := Try.checked) own started (by kernel_rfl) Try.func3
    (ChangeSpec.witness6 (enc := enc) (C := Try.checked) false ⟨#[], #[.slice none 0 0], []⟩ 8 (by kernel_rfl) (by kernel_rfl) (by kernel_rfl) (by kernel_rfl)) ?_
  intro W base args ds gs before hval0 hW hcnd _
  have hval : ∀ (j : Nat) t v, Try.f3.params[j]? = some t → args[j]? = some v → Value.okWide Try.prog W .any base t v := hval0
  have hW' := hW
  obtain ⟨p, q, hA0, hV, rfl, hfz, hnd⟩ := hW
  have hA : DataW.TrodAll enc Try.prog W 0 (fun _ => true) true Try.f3.params.toList args.toList ds p := hA0
  rw [Try.params3] at hA hval
  obtain ⟨v0, vs0, d0, ds0, p0, q0, hargs, rfl, rfl, h0, r0⟩ := trodAll_cons hA
  obtain ⟨rfl, rfl, rfl⟩ := trodAll_nil r0
  obtain rfl : args = #[v0] := by cases args; simp_all
  obtain ⟨rfl, rfl⟩ := trodVars_none hV
  have lt0 : ∀ x ∈ p0, x.block < W.heap.size := by obtain ⟨m, hm⟩ := h0; exact DataW.trod_lt m _ _ _ hm
  obtain ⟨a0, n0, c0, xs0, rfl, sl0, hn0, hm0⟩ := open_WS (hval 0 22 v0 rfl rfl) h0
  clear hA0 hval0
  refine (lawGoodWays_walk a0 n0 c0 xs0 W sl0 hn0 hm0).mono fun e W' ⟨he, bel⟩ => ?_
  subst he
  exact ⟨_, rfl, _, _, _, [], _, [], hW', trodAll_mk1 (shut_bool Try.underlying4 _), (trodAll_cons_mk (Below.trod laidOut (by kernel_rfl) (of_decide_eq_true (by kernel_rfl)) h0 bel lt0) trodAll_mk0), rfl, bel.frame _, fun h => by cases h⟩

theorem gww_holds_c0 : (Rows.fnExactGoodWaysRow.wf (OpenSpec.ofChange Rows.fnExactGoodWaysSpec)) = true := by kernel_rfl
theorem gww_holds_c1 : (laidOutB Try.pinned.checked.prog) = true := by kernel_rfl
theorem gww_holds_c2 : (mapsRowed Try.pinned.checked.prog) = true := by kernel_rfl
theorem gww_holds_c3 : (Try.f3.params.all (Try.pinned.checked.prog.readableRec ·)) = true := by kernel_rfl
theorem gww_holds_c4 : (namedTie Try.pinned.checked.prog Rows.fnExactGoodWaysRow.named Rows.fnExactGoodWaysSpec.vars) = true := by kernel_rfl
theorem gww_holds_c5 : (Rows.fnExactGoodWaysRow.stops == []) = true := by kernel_rfl
theorem gww_holds_c6 : (Try.pinned.checked.prog.stops == []) = true := by kernel_rfl
theorem gww_holds_c7 : (Rows.fnExactGoodWaysRow.knobs == []) = true := by kernel_rfl
theorem gww_holds_c8 : (Try.pinned.checked.prog.stopKnobs == []) = true := by kernel_rfl
theorem gww_holds_c9 : (Rows.fnExactGoodWaysRow.inPlace == Try.pinned.checked.prog.inPlace 3) = true := by kernel_rfl
theorem gww_holds_c10 : (Rows.fnExactGoodWaysRow.unfollowed == Try.pinned.checked.prog.unfollowed 3) = true := by kernel_rfl
theorem gww_holds_c11 : (Rows.fnExactGoodWaysRow.recurses == Try.pinned.checked.prog.recurses 3) = true := by kernel_rfl
theorem gww_holds_c12 : (Rows.fnExactGoodWaysRow.named == Try.pinned.checked.prog.varsNamed 3) = true := by kernel_rfl
theorem gww_holds_c13 : (Rows.fnExactGoodWaysRow.maps == (Try.f3.params.toList ++ Rows.fnExactGoodWaysSpec.plain.varTypes Try.pinned.checked.prog).any (Try.pinned.checked.prog.mapsRec ·)) = true := by kernel_rfl
theorem gww_holds_c14 : (Rows.fnExactGoodWaysRow.ifaces == (Try.f3.params.toList ++ Rows.fnExactGoodWaysSpec.plain.varTypes Try.pinned.checked.prog).any (Try.pinned.checked.prog.ifacesRec ·)) = true := by kernel_rfl
theorem gww_holds_c15 : (Rows.fnExactGoodWaysRow.mapsOut == Try.pinned.checked.prog.mapsAmong Try.f3.resultTypes.toList) = true := by kernel_rfl
theorem gww_holds_c16 : (Rows.fnExactGoodWaysRow.loops == (Try.f3.params.toList ++ Rows.fnExactGoodWaysSpec.plain.varTypes Try.pinned.checked.prog).any (Try.pinned.checked.prog.loopsFrom ·)) = true := by kernel_rfl
theorem gww_holds_c17 : (Rows.fnExactGoodWaysRow.wideKeys == (Try.f3.params.toList ++ Rows.fnExactGoodWaysSpec.plain.varTypes Try.pinned.checked.prog ++ Try.f3.resultTypes.toList).any (Try.pinned.checked.prog.wideKeysFrom ·)) = true := by kernel_rfl
theorem gww_holds_c18 : (Rows.fnExactGoodWaysSpec.vars.all (Try.pinned.checked.prog.varReadable ·)) = true := by kernel_rfl
theorem gww_holds_c19 : (Try.f3.resultTypes.all (fun t => Try.pinned.checked.prog.readableRec t && decide (t < Try.pinned.checked.prog.types.size))) = true := by kernel_rfl
theorem gww_holds_c20 : (Rows.fnExactGoodWaysRow.ifacesOut == Try.f3.resultTypes.toList.any (Try.pinned.checked.prog.ifacesRec ·)) = true := by kernel_rfl
theorem gww_holds_c21 : (Rows.fnExactGoodWaysRow.loopsOut == Try.f3.resultTypes.toList.any (Try.pinned.checked.prog.loopsFrom ·)) = true := by kernel_rfl
theorem gww_holds_c22 : (Rows.fnExactGoodWaysRow.plainKeys == Try.pinned.checked.prog.plainKeys) = true := by kernel_rfl
theorem gww_holds_c23 : (Rows.fnExactGoodWaysRow.shortTexts.isNone) = true := by kernel_rfl
theorem gww_holds_c24 : (Try.pinned.checked.prog.stopsHeard) = true := by kernel_rfl
theorem gww_holds_c25 : (Try.pinned.checked.prog.mayEnter) = true := io_enter
theorem gww_holds_c26 : (Rows.fnExactGoodWaysRow.lifted == Try.pinned.checked.prog.liftsFinal) = true := by rw [io_lifts]; kernel_rfl
theorem gww_holds_c27 : (Try.pinned.checked.prog.make == some Rows.fnExactGoodWaysRow.make) = true := by rw [io_make]; kernel_rfl
theorem gww_holds_c28 : (Rows.fnExactGoodWaysRow.kinds == (if Rows.fnExactGoodWaysRow.domain.isEmpty then [] else Try.f3.params.toList.map fun t => match Try.pinned.checked.prog.underlying t with | some (.int k) => some k | _ => none)) = true := by kernel_rfl
theorem gww_holds_c29 : (Rows.fnExactGoodWaysRow.pinned == Rows.fnExactGoodWaysRow.pinnedBy) = true := by kernel_rfl
theorem gww_holds_c30 : (Rows.fnExactGoodWaysRow.veiled == (Try.f3.params.toList ++ Rows.fnExactGoodWaysSpec.plain.varTypes Try.pinned.checked.prog ++ Try.f3.resultTypes.toList).any (Try.pinned.checked.prog.veiledRec ·)) = true := by kernel_rfl
theorem gww_holds_c31 : (Rows.fnExactGoodWaysRow.veiledFits Try.pinned.checked.prog Try.f3.params.toList (Try.f3.params.toList ++ Rows.fnExactGoodWaysSpec.plain.varTypes Try.pinned.checked.prog ++ Try.f3.resultTypes.toList)) = true := by kernel_rfl
theorem gww_holds_and {a b : Bool} (h : a = true) (k : b = true) : (a && b) = true := by rw [h, k]; rfl
theorem gww_holds_closed : joinedFacts Try.pinned.checked.prog 3 Try.f3 Rows.fnExactGoodWaysSpec Rows.fnExactGoodWaysRow = true := (gww_holds_and (gww_holds_and (gww_holds_and (gww_holds_and (gww_holds_and (gww_holds_and (gww_holds_and (gww_holds_and (gww_holds_and (gww_holds_and (gww_holds_and (gww_holds_and (gww_holds_and (gww_holds_and (gww_holds_and (gww_holds_and (gww_holds_and (gww_holds_and (gww_holds_and (gww_holds_and (gww_holds_and (gww_holds_and (gww_holds_and (gww_holds_and (gww_holds_and (gww_holds_and (gww_holds_and (gww_holds_and (gww_holds_and (gww_holds_and (gww_holds_and gww_holds_c0 gww_holds_c1) gww_holds_c2) gww_holds_c3) gww_holds_c4) gww_holds_c5) gww_holds_c6) gww_holds_c7) gww_holds_c8) gww_holds_c9) gww_holds_c10) gww_holds_c11) gww_holds_c12) gww_holds_c13) gww_holds_c14) gww_holds_c15) gww_holds_c16) gww_holds_c17) gww_holds_c18) gww_holds_c19) gww_holds_c20) gww_holds_c21) gww_holds_c22) gww_holds_c23) gww_holds_c24) gww_holds_c25) gww_holds_c26) gww_holds_c27) gww_holds_c28) gww_holds_c29) gww_holds_c30) gww_holds_c31)
theorem gww_holds_named : Try.pinned.checked.prog.funcNamed Rows.fnExactGoodWaysRow.func = some 3 := by kernel_rfl
theorem gww_holds_inst : Try.f3.isInstance Try.pinned.checked.prog Rows.fnExactGoodWaysRow.origin Rows.fnExactGoodWaysRow.targs := of_decide_eq_true (by kernel_rfl)
theorem gww_holds_wrap : Try.f3.isWrapper Try.pinned.checked.prog Rows.fnExactGoodWaysRow.wrapper Rows.fnExactGoodWaysRow.mainSum := by unfold Func.isWrapper; first | (rw [if_pos (by decide +kernel)]; kernel_rfl) | (rw [if_neg (by decide +kernel)]; exact ⟨rfl, rfl⟩)
theorem gww_holds : Rows.FnExactGoodWaysSaid :=
  OpenClaim.holds_of_wide 3 Try.f3 rfl rfl rfl rfl rfl rfl rfl ⟨rfl, rfl, rfl, rfl, rfl⟩ rfl rfl rfl rfl rfl gww_holds_named Try.func3 gww_holds_closed gww_holds_inst gww_holds_wrap
    (fun os started H enc _ => gww_holds_lifted os started H enc)
#print axioms gww_holds
end Go.Proofs.Ytoffondgdnmhkaa

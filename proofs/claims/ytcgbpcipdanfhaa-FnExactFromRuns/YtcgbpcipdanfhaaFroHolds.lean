/- The law FnExactFromRuns returns true for every argument and leaves it as it was: the given statement FnExactFromRunsSaid. No condition. -/
import Derived.Test.YtcgbpcipdanfhaaFroLaw
import Derived.Test.YtcgbpcipdanfhaaIo
import Derived.Test.YtcgbpcipdanfhaaOpenPt
namespace Go.Proofs.Ytcgbpcipdanfhaa
open Go.ChangeShapes Go.WideShapes Go.ChangeAt Go.RowKit Go.Joins
set_option linter.unusedVariables false
set_option maxRecDepth 100000
set_option linter.unusedSimpArgs false

set_option maxRecDepth 100000 in
theorem fro_holds_lifted (os : Os) (started : os.Started) (H : Type) (enc : TypeId × Value → H) :
    ReturnsInHanded {} Try.checked os 5 .any (Rows.fnExactFromRunsSpec.pre6 enc Try.prog Try.f5 Rows.fnExactFromRunsRow.domain false) (Rows.fnExactFromRunsSpec.post enc Try.prog Try.f5 false true false false) := by
  refine returnsInHanded_of_change (C := Try.checked) own started (by kernel_rfl) Try.func5
    (ChangeSpec.witness6 (enc := enc) (C := Try.checked) false ⟨#[], #[.slice none 0 0], []⟩ 8 (by kernel_rfl) (by kernel_rfl) (by kernel_rfl) (by kernel_rfl)) ?_
  intro W base args ds gs before hval0 hW hcnd _
  have hval : ∀ (j : Nat) t v, Try.f5.params[j]? = some t → args[j]? = some v → Value.okWide Try.prog W .any base t v := hval0
  have hW' := hW
  obtain ⟨p, q, hA0, hV, rfl, hfz, hnd⟩ := hW
  have hA : DataW.TrodAll enc Try.prog W 0 (fun _ => true) true Try.f5.params.toList args.toList ds p := hA0
  rw [Try.params5] at hA hval
  obtain ⟨v0, vs0, d0, ds0, p0, q0, hargs, rfl, rfl, h0, r0⟩ := trodAll_cons hA
  obtain ⟨rfl, rfl, rfl⟩ := trodAll_nil r0
  obtain rfl : args = #[v0] := by cases args; simp_all
  obtain ⟨rfl, rfl⟩ := trodVars_none hV
  have lt0 : ∀ x ∈ p0, x.block < W.heap.size := by obtain ⟨m, hm⟩ := h0; exact DataW.trod_lt m _ _ _ hm
  obtain ⟨a0, n0, c0, l0, rfl, sl0, hn0, hm0⟩ := open_TS (hval 0 22 v0 rfl rfl) h0
  clear hA0 hval0
  refine (lawFromRuns_walk a0 n0 c0 l0 W sl0 hn0 hm0).mono fun e W' ⟨he, bel⟩ => ?_
  subst he
  exact ⟨_, rfl, _, _, _, [], _, [], hW', trodAll_mk1 (shut_bool Try.underlying4 _), (trodAll_cons_mk (Below.trod laidOut (by kernel_rfl) (of_decide_eq_true (by kernel_rfl)) h0 bel lt0) trodAll_mk0), rfl, bel.frame _, fun h => by cases h⟩

theorem fro_holds_c0 : (Rows.fnExactFromRunsRow.wf (OpenSpec.ofChange Rows.fnExactFromRunsSpec)) = true := by kernel_rfl
theorem fro_holds_c1 : (laidOutB Try.pinned.checked.prog) = true := by kernel_rfl
theorem fro_holds_c2 : (mapsRowed Try.pinned.checked.prog) = true := by kernel_rfl
theorem fro_holds_c3 : (Try.f5.params.all (Try.pinned.checked.prog.readableRec ·)) = true := by kernel_rfl
theorem fro_holds_c4 : (namedTie Try.pinned.checked.prog Rows.fnExactFromRunsRow.named Rows.fnExactFromRunsSpec.vars) = true := by kernel_rfl
theorem fro_holds_c5 : (Rows.fnExactFromRunsRow.stops == []) = true := by kernel_rfl
theorem fro_holds_c6 : (Try.pinned.checked.prog.stops == []) = true := by kernel_rfl
theorem fro_holds_c7 : (Rows.fnExactFromRunsRow.knobs == []) = true := by kernel_rfl
theorem fro_holds_c8 : (Try.pinned.checked.prog.stopKnobs == []) = true := by kernel_rfl
theorem fro_holds_c9 : (Rows.fnExactFromRunsRow.inPlace == Try.pinned.checked.prog.inPlace 5) = true := by kernel_rfl
theorem fro_holds_c10 : (Rows.fnExactFromRunsRow.unfollowed == Try.pinned.checked.prog.unfollowed 5) = true := by kernel_rfl
theorem fro_holds_c11 : (Rows.fnExactFromRunsRow.recurses == Try.pinned.checked.prog.recurses 5) = true := by kernel_rfl
theorem fro_holds_c12 : (Rows.fnExactFromRunsRow.named == Try.pinned.checked.prog.varsNamed 5) = true := by kernel_rfl
theorem fro_holds_c13 : (Rows.fnExactFromRunsRow.maps == (Try.f5.params.toList ++ Rows.fnExactFromRunsSpec.plain.varTypes Try.pinned.checked.prog).any (Try.pinned.checked.prog.mapsRec ·)) = true := by kernel_rfl
theorem fro_holds_c14 : (Rows.fnExactFromRunsRow.ifaces == (Try.f5.params.toList ++ Rows.fnExactFromRunsSpec.plain.varTypes Try.pinned.checked.prog).any (Try.pinned.checked.prog.ifacesRec ·)) = true := by kernel_rfl
theorem fro_holds_c15 : (Rows.fnExactFromRunsRow.mapsOut == Try.pinned.checked.prog.mapsAmong Try.f5.resultTypes.toList) = true := by kernel_rfl
theorem fro_holds_c16 : (Rows.fnExactFromRunsRow.loops == (Try.f5.params.toList ++ Rows.fnExactFromRunsSpec.plain.varTypes Try.pinned.checked.prog).any (Try.pinned.checked.prog.loopsFrom ·)) = true := by kernel_rfl
theorem fro_holds_c17 : (Rows.fnExactFromRunsRow.wideKeys == (Try.f5.params.toList ++ Rows.fnExactFromRunsSpec.plain.varTypes Try.pinned.checked.prog ++ Try.f5.resultTypes.toList).any (Try.pinned.checked.prog.wideKeysFrom ·)) = true := by kernel_rfl
theorem fro_holds_c18 : (Rows.fnExactFromRunsSpec.vars.all (Try.pinned.checked.prog.varReadable ·)) = true := by kernel_rfl
theorem fro_holds_c19 : (Try.f5.resultTypes.all (fun t => Try.pinned.checked.prog.readableRec t && decide (t < Try.pinned.checked.prog.types.size))) = true := by kernel_rfl
theorem fro_holds_c20 : (Rows.fnExactFromRunsRow.ifacesOut == Try.f5.resultTypes.toList.any (Try.pinned.checked.prog.ifacesRec ·)) = true := by kernel_rfl
theorem fro_holds_c21 : (Rows.fnExactFromRunsRow.loopsOut == Try.f5.resultTypes.toList.any (Try.pinned.checked.prog.loopsFrom ·)) = true := by kernel_rfl
theorem fro_holds_c22 : (Rows.fnExactFromRunsRow.plainKeys == Try.pinned.checked.prog.plainKeys) = true := by kernel_rfl
theorem fro_holds_c23 : (Rows.fnExactFromRunsRow.shortTexts.isNone) = true := by kernel_rfl
theorem fro_holds_c24 : (Try.pinned.checked.prog.stopsHeard) = true := by kernel_rfl
theorem fro_holds_c25 : (Try.pinned.checked.prog.mayEnter) = true := io_enter
theorem fro_holds_c26 : (Rows.fnExactFromRunsRow.lifted == Try.pinned.checked.prog.liftsFinal) = true := by rw [io_lifts]; kernel_rfl
theorem fro_holds_c27 : (Try.pinned.checked.prog.make == some Rows.fnExactFromRunsRow.make) = true := by rw [io_make]; kernel_rfl
theorem fro_holds_c28 : (Rows.fnExactFromRunsRow.kinds == (if Rows.fnExactFromRunsRow.domain.isEmpty then [] else Try.f5.params.toList.map fun t => match Try.pinned.checked.prog.underlying t with | some (.int k) => some k | _ => none)) = true := by kernel_rfl
theorem fro_holds_c29 : (Rows.fnExactFromRunsRow.pinned == Rows.fnExactFromRunsRow.pinnedBy) = true := by kernel_rfl
theorem fro_holds_c30 : (Rows.fnExactFromRunsRow.veiled == (Try.f5.params.toList ++ Rows.fnExactFromRunsSpec.plain.varTypes Try.pinned.checked.prog ++ Try.f5.resultTypes.toList).any (Try.pinned.checked.prog.veiledRec ·)) = true := by kernel_rfl
theorem fro_holds_c31 : (Rows.fnExactFromRunsRow.veiledFits Try.pinned.checked.prog Try.f5.params.toList (Try.f5.params.toList ++ Rows.fnExactFromRunsSpec.plain.varTypes Try.pinned.checked.prog ++ Try.f5.resultTypes.toList)) = true := by kernel_rfl
theorem fro_holds_and {a b : Bool} (h : a = true) (k : b = true) : (a && b) = true := by rw [h, k]; rfl
theorem fro_holds_closed : joinedFacts Try.pinned.checked.prog 5 Try.f5 Rows.fnExactFromRunsSpec Rows.fnExactFromRunsRow = true := (fro_holds_and (fro_holds_and (fro_holds_and (fro_holds_and (fro_holds_and (fro_holds_and (fro_holds_and (fro_holds_and (fro_holds_and (fro_holds_and (fro_holds_and (fro_holds_and (fro_holds_and (fro_holds_and (fro_holds_and (fro_holds_and (fro_holds_and (fro_holds_and (fro_holds_and (fro_holds_and (fro_holds_and (fro_holds_and (fro_holds_and (fro_holds_and (fro_holds_and (fro_holds_and (fro_holds_and (fro_holds_and (fro_holds_and (fro_holds_and (fro_holds_and fro_holds_c0 fro_holds_c1) fro_holds_c2) fro_holds_c3) fro_holds_c4) fro_holds_c5) fro_holds_c6) fro_holds_c7) fro_holds_c8) fro_holds_c9) fro_holds_c10) fro_holds_c11) fro_holds_c12) fro_holds_c13) fro_holds_c14) fro_holds_c15) fro_holds_c16) fro_holds_c17) fro_holds_c18) fro_holds_c19) fro_holds_c20) fro_holds_c21) fro_holds_c22) fro_holds_c23) fro_holds_c24) fro_holds_c25) fro_holds_c26) fro_holds_c27) fro_holds_c28) fro_holds_c29) fro_holds_c30) fro_holds_c31)
theorem fro_holds_named : Try.pinned.checked.prog.funcNamed Rows.fnExactFromRunsRow.func = some 5 := by kernel_rfl
theorem fro_holds_inst : Try.f5.isInstance Try.pinned.checked.prog Rows.fnExactFromRunsRow.origin Rows.fnExactFromRunsRow.targs := of_decide_eq_true (by kernel_rfl)
theorem fro_holds_wrap : Try.f5.isWrapper Try.pinned.checked.prog Rows.fnExactFromRunsRow.wrapper Rows.fnExactFromRunsRow.mainSum := by unfold Func.isWrapper; first | (rw [if_pos (by decide +kernel)]; kernel_rfl) | (rw [if_neg (by decide +kernel)]; exact ⟨rfl, rfl⟩)
theorem fro_holds : Rows.FnExactFromRunsSaid :=
  OpenClaim.holds_of_wide 5 Try.f5 rfl rfl rfl rfl rfl rfl rfl ⟨rfl, rfl, rfl, rfl, rfl⟩ rfl rfl rfl rfl rfl fro_holds_named Try.func5 fro_holds_closed fro_holds_inst fro_holds_wrap
    (fun os started H enc _ => fro_holds_lifted os started H enc)
#print axioms fro_holds
end Go.Proofs.Ytcgbpcipdanfhaa

/- The law FnExactGoodRuns returns true for every argument and leaves it as it was: the given statement FnExactGoodRunsSaid. No condition. -/
import Derived.Test.YtcgbpcipdanfhaaGruLaw
import Derived.Test.YtcgbpcipdanfhaaIo
import Derived.Test.YtcgbpcipdanfhaaOpenPt
namespace Go.Proofs.Ytcgbpcipdanfhaa
open Go.ChangeShapes Go.WideShapes Go.ChangeAt Go.RowKit Go.Joins
set_option linter.unusedVariables false
set_option maxRecDepth 100000
set_option linter.unusedSimpArgs false

set_option maxRecDepth 100000 in
theorem gru_holds_lifted (os : Os) (started : os.Started) (H : Type) (enc : TypeId × Value → H) :
    ReturnsInHanded {} Try.checked os 3 .any (Rows.fnExactGoodRunsSpec.pre6 enc Try.prog Try.f3 Rows.fnExactGoodRunsRow.domain false) (Rows.fnExactGoodRunsSpec.post enc Try.prog Try.f3 false true false false) := by
  refine returnsInHanded_of_change (C := Try.checked) own started (by kernel_rfl) Try.func3
    (ChangeSpec.witness6 (enc := enc) (C := Try.checked) false ⟨#[], #[.slice none 0 0], []⟩ 8 (by kernel_rfl) (by kernel_rfl) (by kernel_rfl) (by kernel_rfl)) ?_
  intro W base args ds gs before hval0 hW hcnd _
  have hval : ∀ (j : Nat) t v, Try.f3.params[j]? = some t → args[j]? = some v → Value.okWide Try.prog W .any base t v := hval0
  have hW' := hW
  obtain ⟨p, q, hA0, hV, rfl, hfz, hnd⟩ := hW
  have hA : DataW.TrodAll enc Try.prog W 0 (fun _ => true) true Try.f3.params.toList args.toList ds p := hA0
  rw [Try.params3] at hA hval
  obtain ⟨v0, vs0, d0, ds0, p0, q0, hargs, rfl, rfl, h0, r0⟩ := trodAll_cons hA
  obtain ⟨rfl, rfl, rfl⟩ := trodAll_nil r0
  obtain rfl : args = #[v0] := by cases args; simp_all
  obtain ⟨rfl, rfl⟩ := trodVars_none hV
  have lt0 : ∀ x ∈ p0, x.block < W.heap.size := by obtain ⟨m, hm⟩ := h0; exact DataW.trod_lt m _ _ _ hm
  obtain ⟨a0, n0, c0, l0, rfl, sl0, hn0, hm0⟩ := open_TS (hval 0 22 v0 rfl rfl) h0
  clear hA0 hval0
  refine (lawGoodRuns_walk a0 n0 c0 l0 W sl0 hn0 hm0).mono fun e W' ⟨he, bel⟩ => ?_
  subst he
  exact ⟨_, rfl, _, _, _, [], _, [], hW', trodAll_mk1 (shut_bool Try.underlying4 _), (trodAll_cons_mk (Below.trod laidOut (by kernel_rfl) (of_decide_eq_true (by kernel_rfl)) h0 bel lt0) trodAll_mk0), rfl, bel.frame _, fun h => by cases h⟩

theorem gru_holds_c0 : (Rows.fnExactGoodRunsRow.wf (OpenSpec.ofChange Rows.fnExactGoodRunsSpec)) = true := by kernel_rfl
theorem gru_holds_c1 : (laidOutB Try.pinned.checked.prog) = true := by kernel_rfl
theorem gru_holds_c2 : (mapsRowed Try.pinned.checked.prog) = true := by kernel_rfl
theorem gru_holds_c3 : (Try.f3.params.all (Try.pinned.checked.prog.readableRec ·)) = true := by kernel_rfl
theorem gru_holds_c4 : (namedTie Try.pinned.checked.prog Rows.fnExactGoodRunsRow.named Rows.fnExactGoodRunsSpec.vars) = true := by kernel_rfl
theorem gru_holds_c5 : (Rows.fnExactGoodRunsRow.stops == []) = true := by kernel_rfl
theorem gru_holds_c6 : (Try.pinned.checked.prog.stops == []) = true := by kernel_rfl
theorem gru_holds_c7 : (Rows.fnExactGoodRunsRow.knobs == []) = true := by kernel_rfl
theorem gru_holds_c8 : (Try.pinned.checked.prog.stopKnobs == []) = true := by kernel_rfl
theorem gru_holds_c9 : (Rows.fnExactGoodRunsRow.inPlace == Try.pinned.checked.prog.inPlace 3) = true := by kernel_rfl
theorem gru_holds_c10 : (Rows.fnExactGoodRunsRow.unfollowed == Try.pinned.checked.prog.unfollowed 3) = true := by kernel_rfl
theorem gru_holds_c11 : (Rows.fnExactGoodRunsRow.recurses == Try.pinned.checked.prog.recurses 3) = true := by kernel_rfl
theorem gru_holds_c12 : (Rows.fnExactGoodRunsRow.named == Try.pinned.checked.prog.varsNamed 3) = true := by kernel_rfl
theorem gru_holds_c13 : (Rows.fnExactGoodRunsRow.maps == (Try.f3.params.toList ++ Rows.fnExactGoodRunsSpec.plain.varTypes Try.pinned.checked.prog).any (Try.pinned.checked.prog.mapsRec ·)) = true := by kernel_rfl
theorem gru_holds_c14 : (Rows.fnExactGoodRunsRow.ifaces == (Try.f3.params.toList ++ Rows.fnExactGoodRunsSpec.plain.varTypes Try.pinned.checked.prog).any (Try.pinned.checked.prog.ifacesRec ·)) = true := by kernel_rfl
theorem gru_holds_c15 : (Rows.fnExactGoodRunsRow.mapsOut == Try.pinned.checked.prog.mapsAmong Try.f3.resultTypes.toList) = true := by kernel_rfl
theorem gru_holds_c16 : (Rows.fnExactGoodRunsRow.loops == (Try.f3.params.toList ++ Rows.fnExactGoodRunsSpec.plain.varTypes Try.pinned.checked.prog).any (Try.pinned.checked.prog.loopsFrom ·)) = true := by kernel_rfl
theorem gru_holds_c17 : (Rows.fnExactGoodRunsRow.wideKeys == (Try.f3.params.toList ++ Rows.fnExactGoodRunsSpec.plain.varTypes Try.pinned.checked.prog ++ Try.f3.resultTypes.toList).any (Try.pinned.checked.prog.wideKeysFrom ·)) = true := by kernel_rfl
theorem gru_holds_c18 : (Rows.fnExactGoodRunsSpec.vars.all (Try.pinned.checked.prog.varReadable ·)) = true := by kernel_rfl
theorem gru_holds_c19 : (Try.f3.resultTypes.all (fun t => Try.pinned.checked.prog.readableRec t && decide (t < Try.pinned.checked.prog.types.size))) = true := by kernel_rfl
theorem gru_holds_c20 : (Rows.fnExactGoodRunsRow.ifacesOut == Try.f3.resultTypes.toList.any (Try.pinned.checked.prog.ifacesRec ·)) = true := by kernel_rfl
theorem gru_holds_c21 : (Rows.fnExactGoodRunsRow.loopsOut == Try.f3.resultTypes.toList.any (Try.pinned.checked.prog.loopsFrom ·)) = true := by kernel_rfl
theorem gru_holds_c22 : (Rows.fnExactGoodRunsRow.plainKeys == Try.pinned.checked.prog.plainKeys) = true := by kernel_rfl
theorem gru_holds_c23 : (Rows.fnExactGoodRunsRow.shortTexts.isNone) = true := by kernel_rfl
theorem gru_holds_c24 : (Try.pinned.checked.prog.stopsHeard) = true := by kernel_rfl
theorem gru_holds_c25 : (Try.pinned.checked.prog.mayEnter) = true := io_enter
theorem gru_holds_c26 : (Rows.fnExactGoodRunsRow.lifted == Try.pinned.checked.prog.liftsFinal) = true := by rw [io_lifts]; kernel_rfl
theorem gru_holds_c27 : (Try.pinned.checked.prog.make == some Rows.fnExactGoodRunsRow.make) = true := by rw [io_make]; kernel_rfl
theorem gru_holds_c28 : (Rows.fnExactGoodRunsRow.kinds == (if Rows.fnExactGoodRunsRow.domain.isEmpty then [] else Try.f3.params.toList.map fun t => match Try.pinned.checked.prog.underlying t with | some (.int k) => some k | _ => none)) = true := by kernel_rfl
theorem gru_holds_c29 : (Rows.fnExactGoodRunsRow.pinned == Rows.fnExactGoodRunsRow.pinnedBy) = true := by kernel_rfl
theorem gru_holds_c30 : (Rows.fnExactGoodRunsRow.veiled == (Try.f3.params.toList ++ Rows.fnExactGoodRunsSpec.plain.varTypes Try.pinned.checked.prog ++ Try.f3.resultTypes.toList).any (Try.pinned.checked.prog.veiledRec ·)) = true := by kernel_rfl
theorem gru_holds_c31 : (Rows.fnExactGoodRunsRow.veiledFits Try.pinned.checked.prog Try.f3.params.toList (Try.f3.params.toList ++ Rows.fnExactGoodRunsSpec.plain.varTypes Try.pinned.checked.prog ++ Try.f3.resultTypes.toList)) = true := by kernel_rfl
theorem gru_holds_and {a b : Bool} (h : a = true) (k : b = true) : (a && b) = true := by rw [h, k]; rfl
theorem gru_holds_closed : joinedFacts Try.pinned.checked.prog 3 Try.f3 Rows.fnExactGoodRunsSpec Rows.fnExactGoodRunsRow = true := (gru_holds_and (gru_holds_and (gru_holds_and (gru_holds_and (gru_holds_and (gru_holds_and (gru_holds_and (gru_holds_and (gru_holds_and (gru_holds_and (gru_holds_and (gru_holds_and (gru_holds_and (gru_holds_and (gru_holds_and (gru_holds_and (gru_holds_and (gru_holds_and (gru_holds_and (gru_holds_and (gru_holds_and (gru_holds_and (gru_holds_and (gru_holds_and (gru_holds_and (gru_holds_and (gru_holds_and (gru_holds_and (gru_holds_and (gru_holds_and (gru_holds_and gru_holds_c0 gru_holds_c1) gru_holds_c2) gru_holds_c3) gru_holds_c4) gru_holds_c5) gru_holds_c6) gru_holds_c7) gru_holds_c8) gru_holds_c9) gru_holds_c10) gru_holds_c11) gru_holds_c12) gru_holds_c13) gru_holds_c14) gru_holds_c15) gru_holds_c16) gru_holds_c17) gru_holds_c18) gru_holds_c19) gru_holds_c20) gru_holds_c21) gru_holds_c22) gru_holds_c23) gru_holds_c24) gru_holds_c25) gru_holds_c26) gru_holds_c27) gru_holds_c28) gru_holds_c29) gru_holds_c30) gru_holds_c31)
theorem gru_holds_named : Try.pinned.checked.prog.funcNamed Rows.fnExactGoodRunsRow.func = some 3 := by kernel_rfl
theorem gru_holds_inst : Try.f3.isInstance Try.pinned.checked.prog Rows.fnExactGoodRunsRow.origin Rows.fnExactGoodRunsRow.targs := of_decide_eq_true (by kernel_rfl)
theorem gru_holds_wrap : Try.f3.isWrapper Try.pinned.checked.prog Rows.fnExactGoodRunsRow.wrapper Rows.fnExactGoodRunsRow.mainSum := by unfold Func.isWrapper; first | (rw [if_pos (by decide +kernel)]; kernel_rfl) | (rw [if_neg (by decide +kernel)]; exact ⟨rfl, rfl⟩)
theorem gru_holds : Rows.FnExactGoodRunsSaid :=
  OpenClaim.holds_of_wide 3 Try.f3 rfl rfl rfl rfl rfl rfl rfl ⟨rfl, rfl, rfl, rfl, rfl⟩ rfl rfl rfl rfl rfl gru_holds_named Try.func3 gru_holds_closed gru_holds_inst gru_holds_wrap
    (fun os started H enc _ => gru_holds_lifted os started H enc)
#print axioms gru_holds
end Go.Proofs.Ytcgbpcipdanfhaa

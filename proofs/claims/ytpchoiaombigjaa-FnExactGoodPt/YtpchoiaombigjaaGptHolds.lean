/- The law FnExactGoodPt returns true for every argument and leaves it as it was: the given statement FnExactGoodPtSaid. No condition. -/
import Derived.Test.YtpchoiaombigjaaGptLaw
import Derived.Test.YtpchoiaombigjaaIo
import Derived.Test.YtpchoiaombigjaaOpenPt
namespace Go.Proofs.Ytpchoiaombigjaa
open Go.ChangeShapes Go.WideShapes Go.ChangeAt Go.RowKit Go.Joins
set_option linter.unusedVariables false
set_option maxRecDepth 100000
set_option linter.unusedSimpArgs false

set_option maxRecDepth 100000 in
theorem gpt_holds_lifted (os : Os) (started : os.Started) (H : Type) (enc : TypeId × Value → H) :
    ReturnsInHanded {} Try.checked os 5 .any (Rows.fnExactGoodPtSpec.pre6 enc Try.prog Try.f5 Rows.fnExactGoodPtRow.domain false) (Rows.fnExactGoodPtSpec.post enc Try.prog Try.f5 false true false false) := by
  refine returnsInHanded_of_change (C := Try.checked) own started (by kernel_rfl) Try.func5
    (ChangeSpec.witness6 (enc := enc) (C := Try.checked) false ⟨#[], #[.agg #[.int .i64 0, .int .i64 0]], []⟩ 8 (by kernel_rfl) (by kernel_rfl) (by kernel_rfl) (by kernel_rfl)) ?_
  intro W base args ds gs before hval0 hW hcnd _
  have hval : ∀ (j : Nat) t v, Try.f5.params[j]? = some t → args[j]? = some v → Value.okWide Try.prog W .any base t v := hval0
  have hW' := hW
  obtain ⟨p, q, hA0, hV, rfl, hfz, hnd⟩ := hW
  have hA : DataW.TrodAll enc Try.prog W 0 (fun _ => true) true Try.f5.params.toList args.toList ds p := hA0
  rw [Try.params5] at hA hval
  obtain ⟨v0, vs0, d0, ds0, p0, q0, hargs, rfl, rfl, h0, r0⟩ := trodAll_cons hA
  obtain ⟨rfl, rfl, rfl⟩ := trodAll_nil r0
  obtain rfl : args = #[v0] := by cases args; simp_all
  obtain ⟨rfl, rfl⟩ := trodVars_none hV
  have lt0 : ∀ x ∈ p0, x.block < W.heap.size := by obtain ⟨m, hm⟩ := h0; exact DataW.trod_lt m _ _ _ hm
  obtain ⟨t0, rfl⟩ := open_T (hval 0 52 v0 rfl rfl) h0
  clear hA0 hval0
  refine (lawGoodPt_walk t0 W).mono fun e W' ⟨he, bel⟩ => ?_
  subst he
  exact ⟨_, rfl, _, _, _, [], _, [], hW', trodAll_mk1 (shut_bool Try.underlying4 _), (trodAll_cons_mk (Below.trod laidOut (by kernel_rfl) (of_decide_eq_true (by kernel_rfl)) h0 bel lt0) trodAll_mk0), rfl, bel.frame _, fun h => by cases h⟩

theorem gpt_holds_c0 : (Rows.fnExactGoodPtRow.wf (OpenSpec.ofChange Rows.fnExactGoodPtSpec)) = true := by kernel_rfl
theorem gpt_holds_c1 : (laidOutB Try.pinned.checked.prog) = true := by kernel_rfl
theorem gpt_holds_c2 : (mapsRowed Try.pinned.checked.prog) = true := by kernel_rfl
theorem gpt_holds_c3 : (Try.f5.params.all (Try.pinned.checked.prog.readableRec ·)) = true := by kernel_rfl
theorem gpt_holds_c4 : (namedTie Try.pinned.checked.prog Rows.fnExactGoodPtRow.named Rows.fnExactGoodPtSpec.vars) = true := by kernel_rfl
theorem gpt_holds_c5 : (Rows.fnExactGoodPtRow.stops == []) = true := by kernel_rfl
theorem gpt_holds_c6 : (Try.pinned.checked.prog.stops == []) = true := by kernel_rfl
theorem gpt_holds_c7 : (Rows.fnExactGoodPtRow.knobs == []) = true := by kernel_rfl
theorem gpt_holds_c8 : (Try.pinned.checked.prog.stopKnobs == []) = true := by kernel_rfl
theorem gpt_holds_c9 : (Rows.fnExactGoodPtRow.inPlace == Try.pinned.checked.prog.inPlace 5) = true := by kernel_rfl
theorem gpt_holds_c10 : (Rows.fnExactGoodPtRow.unfollowed == Try.pinned.checked.prog.unfollowed 5) = true := by kernel_rfl
theorem gpt_holds_c11 : (Rows.fnExactGoodPtRow.recurses == Try.pinned.checked.prog.recurses 5) = true := by kernel_rfl
theorem gpt_holds_c12 : (Rows.fnExactGoodPtRow.named == Try.pinned.checked.prog.varsNamed 5) = true := by kernel_rfl
theorem gpt_holds_c13 : (Rows.fnExactGoodPtRow.maps == (Try.f5.params.toList ++ Rows.fnExactGoodPtSpec.plain.varTypes Try.pinned.checked.prog).any (Try.pinned.checked.prog.mapsRec ·)) = true := by kernel_rfl
theorem gpt_holds_c14 : (Rows.fnExactGoodPtRow.ifaces == (Try.f5.params.toList ++ Rows.fnExactGoodPtSpec.plain.varTypes Try.pinned.checked.prog).any (Try.pinned.checked.prog.ifacesRec ·)) = true := by kernel_rfl
theorem gpt_holds_c15 : (Rows.fnExactGoodPtRow.mapsOut == Try.pinned.checked.prog.mapsAmong Try.f5.resultTypes.toList) = true := by kernel_rfl
theorem gpt_holds_c16 : (Rows.fnExactGoodPtRow.loops == (Try.f5.params.toList ++ Rows.fnExactGoodPtSpec.plain.varTypes Try.pinned.checked.prog).any (Try.pinned.checked.prog.loopsFrom ·)) = true := by kernel_rfl
theorem gpt_holds_c17 : (Rows.fnExactGoodPtRow.wideKeys == (Try.f5.params.toList ++ Rows.fnExactGoodPtSpec.plain.varTypes Try.pinned.checked.prog ++ Try.f5.resultTypes.toList).any (Try.pinned.checked.prog.wideKeysFrom ·)) = true := by kernel_rfl
theorem gpt_holds_c18 : (Rows.fnExactGoodPtSpec.vars.all (Try.pinned.checked.prog.varReadable ·)) = true := by kernel_rfl
theorem gpt_holds_c19 : (Try.f5.resultTypes.all (fun t => Try.pinned.checked.prog.readableRec t && decide (t < Try.pinned.checked.prog.types.size))) = true := by kernel_rfl
theorem gpt_holds_c20 : (Rows.fnExactGoodPtRow.ifacesOut == Try.f5.resultTypes.toList.any (Try.pinned.checked.prog.ifacesRec ·)) = true := by kernel_rfl
theorem gpt_holds_c21 : (Rows.fnExactGoodPtRow.loopsOut == Try.f5.resultTypes.toList.any (Try.pinned.checked.prog.loopsFrom ·)) = true := by kernel_rfl
theorem gpt_holds_c22 : (Rows.fnExactGoodPtRow.plainKeys == Try.pinned.checked.prog.plainKeys) = true := by kernel_rfl
theorem gpt_holds_c23 : (Rows.fnExactGoodPtRow.shortTexts.isNone) = true := by kernel_rfl
theorem gpt_holds_c24 : (Try.pinned.checked.prog.stopsHeard) = true := by kernel_rfl
theorem gpt_holds_c25 : (Try.pinned.checked.prog.mayEnter) = true := io_enter
theorem gpt_holds_c26 : (Rows.fnExactGoodPtRow.lifted == Try.pinned.checked.prog.liftsFinal) = true := by rw [io_lifts]; kernel_rfl
theorem gpt_holds_c27 : (Try.pinned.checked.prog.make == some Rows.fnExactGoodPtRow.make) = true := by rw [io_make]; kernel_rfl
theorem gpt_holds_c28 : (Rows.fnExactGoodPtRow.kinds == (if Rows.fnExactGoodPtRow.domain.isEmpty then [] else Try.f5.params.toList.map fun t => match Try.pinned.checked.prog.underlying t with | some (.int k) => some k | _ => none)) = true := by kernel_rfl
theorem gpt_holds_c29 : (Rows.fnExactGoodPtRow.pinned == Rows.fnExactGoodPtRow.pinnedBy) = true := by kernel_rfl
theorem gpt_holds_c30 : (Rows.fnExactGoodPtRow.veiled == (Try.f5.params.toList ++ Rows.fnExactGoodPtSpec.plain.varTypes Try.pinned.checked.prog ++ Try.f5.resultTypes.toList).any (Try.pinned.checked.prog.veiledRec ·)) = true := by kernel_rfl
theorem gpt_holds_c31 : (Rows.fnExactGoodPtRow.veiledFits Try.pinned.checked.prog Try.f5.params.toList (Try.f5.params.toList ++ Rows.fnExactGoodPtSpec.plain.varTypes Try.pinned.checked.prog ++ Try.f5.resultTypes.toList)) = true := by kernel_rfl
theorem gpt_holds_and {a b : Bool} (h : a = true) (k : b = true) : (a && b) = true := by rw [h, k]; rfl
theorem gpt_holds_closed : joinedFacts Try.pinned.checked.prog 5 Try.f5 Rows.fnExactGoodPtSpec Rows.fnExactGoodPtRow = true := (gpt_holds_and (gpt_holds_and (gpt_holds_and (gpt_holds_and (gpt_holds_and (gpt_holds_and (gpt_holds_and (gpt_holds_and (gpt_holds_and (gpt_holds_and (gpt_holds_and (gpt_holds_and (gpt_holds_and (gpt_holds_and (gpt_holds_and (gpt_holds_and (gpt_holds_and (gpt_holds_and (gpt_holds_and (gpt_holds_and (gpt_holds_and (gpt_holds_and (gpt_holds_and (gpt_holds_and (gpt_holds_and (gpt_holds_and (gpt_holds_and (gpt_holds_and (gpt_holds_and (gpt_holds_and (gpt_holds_and gpt_holds_c0 gpt_holds_c1) gpt_holds_c2) gpt_holds_c3) gpt_holds_c4) gpt_holds_c5) gpt_holds_c6) gpt_holds_c7) gpt_holds_c8) gpt_holds_c9) gpt_holds_c10) gpt_holds_c11) gpt_holds_c12) gpt_holds_c13) gpt_holds_c14) gpt_holds_c15) gpt_holds_c16) gpt_holds_c17) gpt_holds_c18) gpt_holds_c19) gpt_holds_c20) gpt_holds_c21) gpt_holds_c22) gpt_holds_c23) gpt_holds_c24) gpt_holds_c25) gpt_holds_c26) gpt_holds_c27) gpt_holds_c28) gpt_holds_c29) gpt_holds_c30) gpt_holds_c31)
theorem gpt_holds_named : Try.pinned.checked.prog.funcNamed Rows.fnExactGoodPtRow.func = some 5 := by kernel_rfl
theorem gpt_holds_inst : Try.f5.isInstance Try.pinned.checked.prog Rows.fnExactGoodPtRow.origin Rows.fnExactGoodPtRow.targs := of_decide_eq_true (by kernel_rfl)
theorem gpt_holds_wrap : Try.f5.isWrapper Try.pinned.checked.prog Rows.fnExactGoodPtRow.wrapper Rows.fnExactGoodPtRow.mainSum := by unfold Func.isWrapper; first | (rw [if_pos (by decide +kernel)]; kernel_rfl) | (rw [if_neg (by decide +kernel)]; exact ⟨rfl, rfl⟩)
theorem gpt_holds : Rows.FnExactGoodPtSaid :=
  OpenClaim.holds_of_wide 5 Try.f5 rfl rfl rfl rfl rfl rfl rfl ⟨rfl, rfl, rfl, rfl, rfl⟩ rfl rfl rfl rfl rfl gpt_holds_named Try.func5 gpt_holds_closed gpt_holds_inst gpt_holds_wrap
    (fun os started H enc _ => gpt_holds_lifted os started H enc)
#print axioms gpt_holds
end Go.Proofs.Ytpchoiaombigjaa

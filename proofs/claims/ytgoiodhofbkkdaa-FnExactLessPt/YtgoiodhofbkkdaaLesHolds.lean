/- The law FnExactLessPt returns true for every argument and leaves it as it was: the given statement FnExactLessPtSaid. No condition. -/
import Derived.Test.YtgoiodhofbkkdaaLesLaw
import Derived.Test.YtgoiodhofbkkdaaIo
import Derived.Test.YtgoiodhofbkkdaaOpenPt
namespace Go.Proofs.Ytgoiodhofbkkdaa
open Go.ChangeShapes Go.WideShapes Go.ChangeAt Go.RowKit Go.Joins
set_option linter.unusedVariables false
set_option maxRecDepth 100000
set_option linter.unusedSimpArgs false

set_option maxRecDepth 100000 in
theorem les_holds_lifted (os : Os) (started : os.Started) (H : Type) (enc : TypeId × Value → H) :
    ReturnsInHanded {} Try.checked os 9 .any (Rows.fnExactLessPtSpec.pre6 enc Try.prog Try.f9 Rows.fnExactLessPtRow.domain false) (Rows.fnExactLessPtSpec.post enc Try.prog Try.f9 false true false false) := by
  refine returnsInHanded_of_change (C := Try.checked) own started (by kernel_rfl) Try.func9
    (ChangeSpec.witness6 (enc := enc) (C := Try.checked) false ⟨#[], #[.agg #[.int .i64 0, .int .i64 0], .agg #[.int .i64 0, .int .i64 0]], []⟩ 8 (by kernel_rfl) (by kernel_rfl) (by kernel_rfl) (by kernel_rfl)) ?_
  intro W base args ds gs before hval0 hW hcnd _
  have hval : ∀ (j : Nat) t v, Try.f9.params[j]? = some t → args[j]? = some v → Value.okWide Try.prog W .any base t v := hval0
  have hW' := hW
  obtain ⟨p, q, hA0, hV, rfl, hfz, hnd⟩ := hW
  have hA : DataW.TrodAll enc Try.prog W 0 (fun _ => true) true Try.f9.params.toList args.toList ds p := hA0
  rw [Try.params9] at hA hval
  obtain ⟨v0, vs0, d0, ds0, p0, q0, hargs, rfl, rfl, h0, r0⟩ := trodAll_cons hA
  obtain ⟨v1, vs1, d1, ds1, p1, q1, rfl, rfl, rfl, h1, r1⟩ := trodAll_cons r0
  obtain ⟨rfl, rfl, rfl⟩ := trodAll_nil r1
  obtain rfl : args = #[v0, v1] := by cases args; simp_all
  obtain ⟨rfl, rfl⟩ := trodVars_none hV
  have lt0 : ∀ x ∈ p0, x.block < W.heap.size := by obtain ⟨m, hm⟩ := h0; exact DataW.trod_lt m _ _ _ hm
  obtain ⟨t0, rfl⟩ := open_T (hval 0 52 v0 rfl rfl) h0
  have lt1 : ∀ x ∈ p1, x.block < W.heap.size := by obtain ⟨m, hm⟩ := h1; exact DataW.trod_lt m _ _ _ hm
  obtain ⟨t1, rfl⟩ := open_T (hval 1 52 v1 rfl rfl) h1
  clear hA0 hval0
  refine (lawLessPt_walk t0 t1 W).mono fun e W' ⟨he, bel⟩ => ?_
  subst he
  exact ⟨_, rfl, _, _, _, [], _, [], hW', trodAll_mk1 (shut_bool Try.underlying4 _), (trodAll_cons_mk (Below.trod laidOut (by kernel_rfl) (of_decide_eq_true (by kernel_rfl)) h0 bel lt0) (trodAll_cons_mk (Below.trod laidOut (by kernel_rfl) (of_decide_eq_true (by kernel_rfl)) h1 bel lt1) trodAll_mk0)), rfl, bel.frame _, fun h => by cases h⟩

theorem les_holds_c0 : (Rows.fnExactLessPtRow.wf (OpenSpec.ofChange Rows.fnExactLessPtSpec)) = true := by kernel_rfl
theorem les_holds_c1 : (laidOutB Try.pinned.checked.prog) = true := by kernel_rfl
theorem les_holds_c2 : (mapsRowed Try.pinned.checked.prog) = true := by kernel_rfl
theorem les_holds_c3 : (Try.f9.params.all (Try.pinned.checked.prog.readableRec ·)) = true := by kernel_rfl
theorem les_holds_c4 : (namedTie Try.pinned.checked.prog Rows.fnExactLessPtRow.named Rows.fnExactLessPtSpec.vars) = true := by kernel_rfl
theorem les_holds_c5 : (Rows.fnExactLessPtRow.stops == []) = true := by kernel_rfl
theorem les_holds_c6 : (Try.pinned.checked.prog.stops == []) = true := by kernel_rfl
theorem les_holds_c7 : (Rows.fnExactLessPtRow.knobs == []) = true := by kernel_rfl
theorem les_holds_c8 : (Try.pinned.checked.prog.stopKnobs == []) = true := by kernel_rfl
theorem les_holds_c9 : (Rows.fnExactLessPtRow.inPlace == Try.pinned.checked.prog.inPlace 9) = true := by kernel_rfl
theorem les_holds_c10 : (Rows.fnExactLessPtRow.unfollowed == Try.pinned.checked.prog.unfollowed 9) = true := by kernel_rfl
theorem les_holds_c11 : (Rows.fnExactLessPtRow.recurses == Try.pinned.checked.prog.recurses 9) = true := by kernel_rfl
theorem les_holds_c12 : (Rows.fnExactLessPtRow.named == Try.pinned.checked.prog.varsNamed 9) = true := by kernel_rfl
theorem les_holds_c13 : (Rows.fnExactLessPtRow.maps == (Try.f9.params.toList ++ Rows.fnExactLessPtSpec.plain.varTypes Try.pinned.checked.prog).any (Try.pinned.checked.prog.mapsRec ·)) = true := by kernel_rfl
theorem les_holds_c14 : (Rows.fnExactLessPtRow.ifaces == (Try.f9.params.toList ++ Rows.fnExactLessPtSpec.plain.varTypes Try.pinned.checked.prog).any (Try.pinned.checked.prog.ifacesRec ·)) = true := by kernel_rfl
theorem les_holds_c15 : (Rows.fnExactLessPtRow.mapsOut == Try.pinned.checked.prog.mapsAmong Try.f9.resultTypes.toList) = true := by kernel_rfl
theorem les_holds_c16 : (Rows.fnExactLessPtRow.loops == (Try.f9.params.toList ++ Rows.fnExactLessPtSpec.plain.varTypes Try.pinned.checked.prog).any (Try.pinned.checked.prog.loopsFrom ·)) = true := by kernel_rfl
theorem les_holds_c17 : (Rows.fnExactLessPtRow.wideKeys == (Try.f9.params.toList ++ Rows.fnExactLessPtSpec.plain.varTypes Try.pinned.checked.prog ++ Try.f9.resultTypes.toList).any (Try.pinned.checked.prog.wideKeysFrom ·)) = true := by kernel_rfl
theorem les_holds_c18 : (Rows.fnExactLessPtSpec.vars.all (Try.pinned.checked.prog.varReadable ·)) = true := by kernel_rfl
theorem les_holds_c19 : (Try.f9.resultTypes.all (fun t => Try.pinned.checked.prog.readableRec t && decide (t < Try.pinned.checked.prog.types.size))) = true := by kernel_rfl
theorem les_holds_c20 : (Rows.fnExactLessPtRow.ifacesOut == Try.f9.resultTypes.toList.any (Try.pinned.checked.prog.ifacesRec ·)) = true := by kernel_rfl
theorem les_holds_c21 : (Rows.fnExactLessPtRow.loopsOut == Try.f9.resultTypes.toList.any (Try.pinned.checked.prog.loopsFrom ·)) = true := by kernel_rfl
theorem les_holds_c22 : (Rows.fnExactLessPtRow.plainKeys == Try.pinned.checked.prog.plainKeys) = true := by kernel_rfl
theorem les_holds_c23 : (Rows.fnExactLessPtRow.shortTexts.isNone) = true := by kernel_rfl
theorem les_holds_c24 : (Try.pinned.checked.prog.stopsHeard) = true := by kernel_rfl
theorem les_holds_c25 : (Try.pinned.checked.prog.mayEnter) = true := io_enter
theorem les_holds_c26 : (Rows.fnExactLessPtRow.lifted == Try.pinned.checked.prog.liftsFinal) = true := by rw [io_lifts]; kernel_rfl
theorem les_holds_c27 : (Try.pinned.checked.prog.make == some Rows.fnExactLessPtRow.make) = true := by rw [io_make]; kernel_rfl
theorem les_holds_c28 : (Rows.fnExactLessPtRow.kinds == (if Rows.fnExactLessPtRow.domain.isEmpty then [] else Try.f9.params.toList.map fun t => match Try.pinned.checked.prog.underlying t with | some (.int k) => some k | _ => none)) = true := by kernel_rfl
theorem les_holds_c29 : (Rows.fnExactLessPtRow.pinned == Rows.fnExactLessPtRow.pinnedBy) = true := by kernel_rfl
theorem les_holds_c30 : (Rows.fnExactLessPtRow.veiled == (Try.f9.params.toList ++ Rows.fnExactLessPtSpec.plain.varTypes Try.pinned.checked.prog ++ Try.f9.resultTypes.toList).any (Try.pinned.checked.prog.veiledRec ·)) = true := by kernel_rfl
theorem les_holds_c31 : (Rows.fnExactLessPtRow.veiledFits Try.pinned.checked.prog Try.f9.params.toList (Try.f9.params.toList ++ Rows.fnExactLessPtSpec.plain.varTypes Try.pinned.checked.prog ++ Try.f9.resultTypes.toList)) = true := by kernel_rfl
theorem les_holds_and {a b : Bool} (h : a = true) (k : b = true) : (a && b) = true := by rw [h, k]; rfl
theorem les_holds_closed : joinedFacts Try.pinned.checked.prog 9 Try.f9 Rows.fnExactLessPtSpec Rows.fnExactLessPtRow = true := (les_holds_and (les_holds_and (les_holds_and (les_holds_and (les_holds_and (les_holds_and (les_holds_and (les_holds_and (les_holds_and (les_holds_and (les_holds_and (les_holds_and (les_holds_and (les_holds_and (les_holds_and (les_holds_and (les_holds_and (les_holds_and (les_holds_and (les_holds_and (les_holds_and (les_holds_and (les_holds_and (les_holds_and (les_holds_and (les_holds_and (les_holds_and (les_holds_and (les_holds_and (les_holds_and (les_holds_and les_holds_c0 les_holds_c1) les_holds_c2) les_holds_c3) les_holds_c4) les_holds_c5) les_holds_c6) les_holds_c7) les_holds_c8) les_holds_c9) les_holds_c10) les_holds_c11) les_holds_c12) les_holds_c13) les_holds_c14) les_holds_c15) les_holds_c16) les_holds_c17) les_holds_c18) les_holds_c19) les_holds_c20) les_holds_c21) les_holds_c22) les_holds_c23) les_holds_c24) les_holds_c25) les_holds_c26) les_holds_c27) les_holds_c28) les_holds_c29) les_holds_c30) les_holds_c31)
theorem les_holds_named : Try.pinned.checked.prog.funcNamed Rows.fnExactLessPtRow.func = some 9 := by kernel_rfl
theorem les_holds_inst : Try.f9.isInstance Try.pinned.checked.prog Rows.fnExactLessPtRow.origin Rows.fnExactLessPtRow.targs := of_decide_eq_true (by kernel_rfl)
theorem les_holds_wrap : Try.f9.isWrapper Try.pinned.checked.prog Rows.fnExactLessPtRow.wrapper Rows.fnExactLessPtRow.mainSum := by unfold Func.isWrapper; first | (rw [if_pos (by decide +kernel)]; kernel_rfl) | (rw [if_neg (by decide +kernel)]; exact ⟨rfl, rfl⟩)
theorem les_holds : Rows.FnExactLessPtSaid :=
  OpenClaim.holds_of_wide 9 Try.f9 rfl rfl rfl rfl rfl rfl rfl ⟨rfl, rfl, rfl, rfl, rfl⟩ rfl rfl rfl rfl rfl les_holds_named Try.func9 les_holds_closed les_holds_inst les_holds_wrap
    (fun os started H enc _ => les_holds_lifted os started H enc)
#print axioms les_holds
end Go.Proofs.Ytgoiodhofbkkdaa

/- The law FnExactHasPt returns true for every argument and leaves it as it was: the given statement FnExactHasPtSaid. No condition. -/
import Derived.Test.YtgoiodhofbkkdaaHasLaw
import Derived.Test.YtgoiodhofbkkdaaIo
import Derived.Test.YtgoiodhofbkkdaaOpenPt
namespace Go.Proofs.Ytgoiodhofbkkdaa
open Go.ChangeShapes Go.WideShapes Go.ChangeAt Go.RowKit Go.Joins
set_option linter.unusedVariables false
set_option maxRecDepth 100000
set_option linter.unusedSimpArgs false

set_option maxRecDepth 100000 in
theorem has_holds_lifted (os : Os) (started : os.Started) (H : Type) (enc : TypeId × Value → H) :
    ReturnsInHanded {} Try.checked os 8 .any (Rows.fnExactHasPtSpec.pre6 enc Try.prog Try.f8 Rows.fnExactHasPtRow.domain false) (Rows.fnExactHasPtSpec.post enc Try.prog Try.f8 false true false false) := by
  refine returnsInHanded_of_change (C := Try.checked) own started (by kernel_rfl) Try.func8
    (ChangeSpec.witness6 (enc := enc) (C := Try.checked) false ⟨#[], #[.slice none 0 0, .agg #[.int .i64 0, .int .i64 0]], []⟩ 8 (by kernel_rfl) (by kernel_rfl) (by kernel_rfl) (by kernel_rfl)) ?_
  intro W base args ds gs before hval0 hW hcnd _
  have hval : ∀ (j : Nat) t v, Try.f8.params[j]? = some t → args[j]? = some v → Value.okWide Try.prog W .any base t v := hval0
  have hW' := hW
  obtain ⟨p, q, hA0, hV, rfl, hfz, hnd⟩ := hW
  have hA : DataW.TrodAll enc Try.prog W 0 (fun _ => true) true Try.f8.params.toList args.toList ds p := hA0
  rw [Try.params8] at hA hval
  obtain ⟨v0, vs0, d0, ds0, p0, q0, hargs, rfl, rfl, h0, r0⟩ := trodAll_cons hA
  obtain ⟨v1, vs1, d1, ds1, p1, q1, rfl, rfl, rfl, h1, r1⟩ := trodAll_cons r0
  obtain ⟨rfl, rfl, rfl⟩ := trodAll_nil r1
  obtain rfl : args = #[v0, v1] := by cases args; simp_all
  obtain ⟨rfl, rfl⟩ := trodVars_none hV
  have lt0 : ∀ x ∈ p0, x.block < W.heap.size := by obtain ⟨m, hm⟩ := h0; exact DataW.trod_lt m _ _ _ hm
  obtain ⟨a0, n0, c0, l0, rfl, sl0, hn0, hm0⟩ := open_TS (hval 0 46 v0 rfl rfl) h0
  have lt1 : ∀ x ∈ p1, x.block < W.heap.size := by obtain ⟨m, hm⟩ := h1; exact DataW.trod_lt m _ _ _ hm
  obtain ⟨t1, rfl⟩ := open_T (hval 1 52 v1 rfl rfl) h1
  clear hA0 hval0
  refine (lawHasPt_walk a0 n0 c0 l0 t1 W sl0 hn0 hm0).mono fun e W' ⟨he, bel⟩ => ?_
  subst he
  exact ⟨_, rfl, _, _, _, [], _, [], hW', trodAll_mk1 (shut_bool Try.underlying4 _), (trodAll_cons_mk (Below.trod laidOut (by kernel_rfl) (of_decide_eq_true (by kernel_rfl)) h0 bel lt0) (trodAll_cons_mk (Below.trod laidOut (by kernel_rfl) (of_decide_eq_true (by kernel_rfl)) h1 bel lt1) trodAll_mk0)), rfl, bel.frame _, fun h => by cases h⟩

theorem has_holds_c0 : (Rows.fnExactHasPtRow.wf (OpenSpec.ofChange Rows.fnExactHasPtSpec)) = true := by kernel_rfl
theorem has_holds_c1 : (laidOutB Try.pinned.checked.prog) = true := by kernel_rfl
theorem has_holds_c2 : (mapsRowed Try.pinned.checked.prog) = true := by kernel_rfl
theorem has_holds_c3 : (Try.f8.params.all (Try.pinned.checked.prog.readableRec ·)) = true := by kernel_rfl
theorem has_holds_c4 : (namedTie Try.pinned.checked.prog Rows.fnExactHasPtRow.named Rows.fnExactHasPtSpec.vars) = true := by kernel_rfl
theorem has_holds_c5 : (Rows.fnExactHasPtRow.stops == []) = true := by kernel_rfl
theorem has_holds_c6 : (Try.pinned.checked.prog.stops == []) = true := by kernel_rfl
theorem has_holds_c7 : (Rows.fnExactHasPtRow.knobs == []) = true := by kernel_rfl
theorem has_holds_c8 : (Try.pinned.checked.prog.stopKnobs == []) = true := by kernel_rfl
theorem has_holds_c9 : (Rows.fnExactHasPtRow.inPlace == Try.pinned.checked.prog.inPlace 8) = true := by kernel_rfl
theorem has_holds_c10 : (Rows.fnExactHasPtRow.unfollowed == Try.pinned.checked.prog.unfollowed 8) = true := by kernel_rfl
theorem has_holds_c11 : (Rows.fnExactHasPtRow.recurses == Try.pinned.checked.prog.recurses 8) = true := by kernel_rfl
theorem has_holds_c12 : (Rows.fnExactHasPtRow.named == Try.pinned.checked.prog.varsNamed 8) = true := by kernel_rfl
theorem has_holds_c13 : (Rows.fnExactHasPtRow.maps == (Try.f8.params.toList ++ Rows.fnExactHasPtSpec.plain.varTypes Try.pinned.checked.prog).any (Try.pinned.checked.prog.mapsRec ·)) = true := by kernel_rfl
theorem has_holds_c14 : (Rows.fnExactHasPtRow.ifaces == (Try.f8.params.toList ++ Rows.fnExactHasPtSpec.plain.varTypes Try.pinned.checked.prog).any (Try.pinned.checked.prog.ifacesRec ·)) = true := by kernel_rfl
theorem has_holds_c15 : (Rows.fnExactHasPtRow.mapsOut == Try.pinned.checked.prog.mapsAmong Try.f8.resultTypes.toList) = true := by kernel_rfl
theorem has_holds_c16 : (Rows.fnExactHasPtRow.loops == (Try.f8.params.toList ++ Rows.fnExactHasPtSpec.plain.varTypes Try.pinned.checked.prog).any (Try.pinned.checked.prog.loopsFrom ·)) = true := by kernel_rfl
theorem has_holds_c17 : (Rows.fnExactHasPtRow.wideKeys == (Try.f8.params.toList ++ Rows.fnExactHasPtSpec.plain.varTypes Try.pinned.checked.prog ++ Try.f8.resultTypes.toList).any (Try.pinned.checked.prog.wideKeysFrom ·)) = true := by kernel_rfl
theorem has_holds_c18 : (Rows.fnExactHasPtSpec.vars.all (Try.pinned.checked.prog.varReadable ·)) = true := by kernel_rfl
theorem has_holds_c19 : (Try.f8.resultTypes.all (fun t => Try.pinned.checked.prog.readableRec t && decide (t < Try.pinned.checked.prog.types.size))) = true := by kernel_rfl
theorem has_holds_c20 : (Rows.fnExactHasPtRow.ifacesOut == Try.f8.resultTypes.toList.any (Try.pinned.checked.prog.ifacesRec ·)) = true := by kernel_rfl
theorem has_holds_c21 : (Rows.fnExactHasPtRow.loopsOut == Try.f8.resultTypes.toList.any (Try.pinned.checked.prog.loopsFrom ·)) = true := by kernel_rfl
theorem has_holds_c22 : (Rows.fnExactHasPtRow.plainKeys == Try.pinned.checked.prog.plainKeys) = true := by kernel_rfl
theorem has_holds_c23 : (Rows.fnExactHasPtRow.shortTexts.isNone) = true := by kernel_rfl
theorem has_holds_c24 : (Try.pinned.checked.prog.stopsHeard) = true := by kernel_rfl
theorem has_holds_c25 : (Try.pinned.checked.prog.mayEnter) = true := io_enter
theorem has_holds_c26 : (Rows.fnExactHasPtRow.lifted == Try.pinned.checked.prog.liftsFinal) = true := by rw [io_lifts]; kernel_rfl
theorem has_holds_c27 : (Try.pinned.checked.prog.make == some Rows.fnExactHasPtRow.make) = true := by rw [io_make]; kernel_rfl
theorem has_holds_c28 : (Rows.fnExactHasPtRow.kinds == (if Rows.fnExactHasPtRow.domain.isEmpty then [] else Try.f8.params.toList.map fun t => match Try.pinned.checked.prog.underlying t with | some (.int k) => some k | _ => none)) = true := by kernel_rfl
theorem has_holds_c29 : (Rows.fnExactHasPtRow.pinned == Rows.fnExactHasPtRow.pinnedBy) = true := by kernel_rfl
theorem has_holds_c30 : (Rows.fnExactHasPtRow.veiled == (Try.f8.params.toList ++ Rows.fnExactHasPtSpec.plain.varTypes Try.pinned.checked.prog ++ Try.f8.resultTypes.toList).any (Try.pinned.checked.prog.veiledRec ·)) = true := by kernel_rfl
theorem has_holds_c31 : (Rows.fnExactHasPtRow.veiledFits Try.pinned.checked.prog Try.f8.params.toList (Try.f8.params.toList ++ Rows.fnExactHasPtSpec.plain.varTypes Try.pinned.checked.prog ++ Try.f8.resultTypes.toList)) = true := by kernel_rfl
theorem has_holds_and {a b : Bool} (h : a = true) (k : b = true) : (a && b) = true := by rw [h, k]; rfl
theorem has_holds_closed : joinedFacts Try.pinned.checked.prog 8 Try.f8 Rows.fnExactHasPtSpec Rows.fnExactHasPtRow = true := (has_holds_and (has_holds_and (has_holds_and (has_holds_and (has_holds_and (has_holds_and (has_holds_and (has_holds_and (has_holds_and (has_holds_and (has_holds_and (has_holds_and (has_holds_and (has_holds_and (has_holds_and (has_holds_and (has_holds_and (has_holds_and (has_holds_and (has_holds_and (has_holds_and (has_holds_and (has_holds_and (has_holds_and (has_holds_and (has_holds_and (has_holds_and (has_holds_and (has_holds_and (has_holds_and (has_holds_and has_holds_c0 has_holds_c1) has_holds_c2) has_holds_c3) has_holds_c4) has_holds_c5) has_holds_c6) has_holds_c7) has_holds_c8) has_holds_c9) has_holds_c10) has_holds_c11) has_holds_c12) has_holds_c13) has_holds_c14) has_holds_c15) has_holds_c16) has_holds_c17) has_holds_c18) has_holds_c19) has_holds_c20) has_holds_c21) has_holds_c22) has_holds_c23) has_holds_c24) has_holds_c25) has_holds_c26) has_holds_c27) has_holds_c28) has_holds_c29) has_holds_c30) has_holds_c31)
theorem has_holds_named : Try.pinned.checked.prog.funcNamed Rows.fnExactHasPtRow.func = some 8 := by kernel_rfl
theorem has_holds_inst : Try.f8.isInstance Try.pinned.checked.prog Rows.fnExactHasPtRow.origin Rows.fnExactHasPtRow.targs := of_decide_eq_true (by kernel_rfl)
theorem has_holds_wrap : Try.f8.isWrapper Try.pinned.checked.prog Rows.fnExactHasPtRow.wrapper Rows.fnExactHasPtRow.mainSum := by unfold Func.isWrapper; first | (rw [if_pos (by decide +kernel)]; kernel_rfl) | (rw [if_neg (by decide +kernel)]; exact ⟨rfl, rfl⟩)
theorem has_holds : Rows.FnExactHasPtSaid :=
  OpenClaim.holds_of_wide 8 Try.f8 rfl rfl rfl rfl rfl rfl rfl ⟨rfl, rfl, rfl, rfl, rfl⟩ rfl rfl rfl rfl rfl has_holds_named Try.func8 has_holds_closed has_holds_inst has_holds_wrap
    (fun os started H enc _ => has_holds_lifted os started H enc)
#print axioms has_holds
end Go.Proofs.Ytgoiodhofbkkdaa

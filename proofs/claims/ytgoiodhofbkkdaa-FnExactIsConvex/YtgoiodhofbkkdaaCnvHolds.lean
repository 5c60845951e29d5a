/- The law FnExactIsConvex returns true for every argument and leaves it as it was: the given statement FnExactIsConvexSaid. No condition. -/
import Derived.Test.YtgoiodhofbkkdaaCnvLaw
import Derived.Test.YtgoiodhofbkkdaaIo
import Derived.Test.YtgoiodhofbkkdaaOpenPt
namespace Go.Proofs.Ytgoiodhofbkkdaa
open Go.ChangeShapes Go.WideShapes Go.ChangeAt Go.RowKit Go.Joins
set_option linter.unusedVariables false
set_option maxRecDepth 100000
set_option linter.unusedSimpArgs false

set_option maxRecDepth 100000 in
theorem cnv_holds_lifted (os : Os) (started : os.Started) (H : Type) (enc : TypeId × Value → H) :
    ReturnsInHanded {} Try.checked os 7 .any (Rows.fnExactIsConvexSpec.pre6 enc Try.prog Try.f7 Rows.fnExactIsConvexRow.domain false) (Rows.fnExactIsConvexSpec.post enc Try.prog Try.f7 false true false false) := by
  refine returnsInHanded_of_change (C := Try.checked) own started (by kernel_rfl) Try.func7
    (ChangeSpec.witness6 (enc := enc) (C := Try.checked) false ⟨#[], #[.slice none 0 0], []⟩ 8 (by kernel_rfl) (by kernel_rfl) (by kernel_rfl) (by kernel_rfl)) ?_
  intro W base args ds gs before hval0 hW hcnd _
  have hval : ∀ (j : Nat) t v, Try.f7.params[j]? = some t → args[j]? = some v → Value.okWide Try.prog W .any base t v := hval0
  have hW' := hW
  obtain ⟨p, q, hA0, hV, rfl, hfz, hnd⟩ := hW
  have hA : DataW.TrodAll enc Try.prog W 0 (fun _ => true) true Try.f7.params.toList args.toList ds p := hA0
  rw [Try.params7] at hA hval
  obtain ⟨v0, vs0, d0, ds0, p0, q0, hargs, rfl, rfl, h0, r0⟩ := trodAll_cons hA
  obtain ⟨rfl, rfl, rfl⟩ := trodAll_nil r0
  obtain rfl : args = #[v0] := by cases args; simp_all
  obtain ⟨rfl, rfl⟩ := trodVars_none hV
  have lt0 : ∀ x ∈ p0, x.block < W.heap.size := by obtain ⟨m, hm⟩ := h0; exact DataW.trod_lt m _ _ _ hm
  obtain ⟨a0, n0, c0, l0, rfl, sl0, hn0, hm0⟩ := open_TS (hval 0 46 v0 rfl rfl) h0
  clear hA0 hval0
  refine (lawIsConvex_walk a0 n0 c0 l0 W sl0 hn0 hm0).mono fun e W' ⟨he, bel⟩ => ?_
  subst he
  exact ⟨_, rfl, _, _, _, [], _, [], hW', trodAll_mk1 (shut_bool Try.underlying4 _), (trodAll_cons_mk (Below.trod laidOut (by kernel_rfl) (of_decide_eq_true (by kernel_rfl)) h0 bel lt0) trodAll_mk0), rfl, bel.frame _, fun h => by cases h⟩

theorem cnv_holds_c0 : (Rows.fnExactIsConvexRow.wf (OpenSpec.ofChange Rows.fnExactIsConvexSpec)) = true := by kernel_rfl
theorem cnv_holds_c1 : (laidOutB Try.pinned.checked.prog) = true := by kernel_rfl
theorem cnv_holds_c2 : (mapsRowed Try.pinned.checked.prog) = true := by kernel_rfl
theorem cnv_holds_c3 : (Try.f7.params.all (Try.pinned.checked.prog.readableRec ·)) = true := by kernel_rfl
theorem cnv_holds_c4 : (namedTie Try.pinned.checked.prog Rows.fnExactIsConvexRow.named Rows.fnExactIsConvexSpec.vars) = true := by kernel_rfl
theorem cnv_holds_c5 : (Rows.fnExactIsConvexRow.stops == []) = true := by kernel_rfl
theorem cnv_holds_c6 : (Try.pinned.checked.prog.stops == []) = true := by kernel_rfl
theorem cnv_holds_c7 : (Rows.fnExactIsConvexRow.knobs == []) = true := by kernel_rfl
theorem cnv_holds_c8 : (Try.pinned.checked.prog.stopKnobs == []) = true := by kernel_rfl
theorem cnv_holds_c9 : (Rows.fnExactIsConvexRow.inPlace == Try.pinned.checked.prog.inPlace 7) = true := by kernel_rfl
theorem cnv_holds_c10 : (Rows.fnExactIsConvexRow.unfollowed == Try.pinned.checked.prog.unfollowed 7) = true := by kernel_rfl
theorem cnv_holds_c11 : (Rows.fnExactIsConvexRow.recurses == Try.pinned.checked.prog.recurses 7) = true := by kernel_rfl
theorem cnv_holds_c12 : (Rows.fnExactIsConvexRow.named == Try.pinned.checked.prog.varsNamed 7) = true := by kernel_rfl
theorem cnv_holds_c13 : (Rows.fnExactIsConvexRow.maps == (Try.f7.params.toList ++ Rows.fnExactIsConvexSpec.plain.varTypes Try.pinned.checked.prog).any (Try.pinned.checked.prog.mapsRec ·)) = true := by kernel_rfl
theorem cnv_holds_c14 : (Rows.fnExactIsConvexRow.ifaces == (Try.f7.params.toList ++ Rows.fnExactIsConvexSpec.plain.varTypes Try.pinned.checked.prog).any (Try.pinned.checked.prog.ifacesRec ·)) = true := by kernel_rfl
theorem cnv_holds_c15 : (Rows.fnExactIsConvexRow.mapsOut == Try.pinned.checked.prog.mapsAmong Try.f7.resultTypes.toList) = true := by kernel_rfl
theorem cnv_holds_c16 : (Rows.fnExactIsConvexRow.loops == (Try.f7.params.toList ++ Rows.fnExactIsConvexSpec.plain.varTypes Try.pinned.checked.prog).any (Try.pinned.checked.prog.loopsFrom ·)) = true := by kernel_rfl
theorem cnv_holds_c17 : (Rows.fnExactIsConvexRow.wideKeys == (Try.f7.params.toList ++ Rows.fnExactIsConvexSpec.plain.varTypes Try.pinned.checked.prog ++ Try.f7.resultTypes.toList).any (Try.pinned.checked.prog.wideKeysFrom ·)) = true := by kernel_rfl
theorem cnv_holds_c18 : (Rows.fnExactIsConvexSpec.vars.all (Try.pinned.checked.prog.varReadable ·)) = true := by kernel_rfl
theorem cnv_holds_c19 : (Try.f7.resultTypes.all (fun t => Try.pinned.checked.prog.readableRec t && decide (t < Try.pinned.checked.prog.types.size))) = true := by kernel_rfl
theorem cnv_holds_c20 : (Rows.fnExactIsConvexRow.ifacesOut == Try.f7.resultTypes.toList.any (Try.pinned.checked.prog.ifacesRec ·)) = true := by kernel_rfl
theorem cnv_holds_c21 : (Rows.fnExactIsConvexRow.loopsOut == Try.f7.resultTypes.toList.any (Try.pinned.checked.prog.loopsFrom ·)) = true := by kernel_rfl
theorem cnv_holds_c22 : (Rows.fnExactIsConvexRow.plainKeys == Try.pinned.checked.prog.plainKeys) = true := by kernel_rfl
theorem cnv_holds_c23 : (Rows.fnExactIsConvexRow.shortTexts.isNone) = true := by kernel_rfl
theorem cnv_holds_c24 : (Try.pinned.checked.prog.stopsHeard) = true := by kernel_rfl
theorem cnv_holds_c25 : (Try.pinned.checked.prog.mayEnter) = true := io_enter
theorem cnv_holds_c26 : (Rows.fnExactIsConvexRow.lifted == Try.pinned.checked.prog.liftsFinal) = true := by rw [io_lifts]; kernel_rfl
theorem cnv_holds_c27 : (Try.pinned.checked.prog.make == some Rows.fnExactIsConvexRow.make) = true := by rw [io_make]; kernel_rfl
theorem cnv_holds_c28 : (Rows.fnExactIsConvexRow.kinds == (if Rows.fnExactIsConvexRow.domain.isEmpty then [] else Try.f7.params.toList.map fun t => match Try.pinned.checked.prog.underlying t with | some (.int k) => some k | _ => none)) = true := by kernel_rfl
theorem cnv_holds_c29 : (Rows.fnExactIsConvexRow.pinned == Rows.fnExactIsConvexRow.pinnedBy) = true := by kernel_rfl
theorem cnv_holds_c30 : (Rows.fnExactIsConvexRow.veiled == (Try.f7.params.toList ++ Rows.fnExactIsConvexSpec.plain.varTypes Try.pinned.checked.prog ++ Try.f7.resultTypes.toList).any (Try.pinned.checked.prog.veiledRec ·)) = true := by kernel_rfl
theorem cnv_holds_c31 : (Rows.fnExactIsConvexRow.veiledFits Try.pinned.checked.prog Try.f7.params.toList (Try.f7.params.toList ++ Rows.fnExactIsConvexSpec.plain.varTypes Try.pinned.checked.prog ++ Try.f7.resultTypes.toList)) = true := by kernel_rfl
theorem cnv_holds_and {a b : Bool} (h : a = true) (k : b = true) : (a && b) = true := by rw [h, k]; rfl
theorem cnv_holds_closed : joinedFacts Try.pinned.checked.prog 7 Try.f7 Rows.fnExactIsConvexSpec Rows.fnExactIsConvexRow = true := (cnv_holds_and (cnv_holds_and (cnv_holds_and (cnv_holds_and (cnv_holds_and (cnv_holds_and (cnv_holds_and (cnv_holds_and (cnv_holds_and (cnv_holds_and (cnv_holds_and (cnv_holds_and (cnv_holds_and (cnv_holds_and (cnv_holds_and (cnv_holds_and (cnv_holds_and (cnv_holds_and (cnv_holds_and (cnv_holds_and (cnv_holds_and (cnv_holds_and (cnv_holds_and (cnv_holds_and (cnv_holds_and (cnv_holds_and (cnv_holds_and (cnv_holds_and (cnv_holds_and (cnv_holds_and (cnv_holds_and cnv_holds_c0 cnv_holds_c1) cnv_holds_c2) cnv_holds_c3) cnv_holds_c4) cnv_holds_c5) cnv_holds_c6) cnv_holds_c7) cnv_holds_c8) cnv_holds_c9) cnv_holds_c10) cnv_holds_c11) cnv_holds_c12) cnv_holds_c13) cnv_holds_c14) cnv_holds_c15) cnv_holds_c16) cnv_holds_c17) cnv_holds_c18) cnv_holds_c19) cnv_holds_c20) cnv_holds_c21) cnv_holds_c22) cnv_holds_c23) cnv_holds_c24) cnv_holds_c25) cnv_holds_c26) cnv_holds_c27) cnv_holds_c28) cnv_holds_c29) cnv_holds_c30) cnv_holds_c31)
theorem cnv_holds_named : Try.pinned.checked.prog.funcNamed Rows.fnExactIsConvexRow.func = some 7 := by kernel_rfl
theorem cnv_holds_inst : Try.f7.isInstance Try.pinned.checked.prog Rows.fnExactIsConvexRow.origin Rows.fnExactIsConvexRow.targs := of_decide_eq_true (by kernel_rfl)
theorem cnv_holds_wrap : Try.f7.isWrapper Try.pinned.checked.prog Rows.fnExactIsConvexRow.wrapper Rows.fnExactIsConvexRow.mainSum := by unfold Func.isWrapper; first | (rw [if_pos (by decide +kernel)]; kernel_rfl) | (rw [if_neg (by decide +kernel)]; exact ⟨rfl, rfl⟩)
theorem cnv_holds : Rows.FnExactIsConvexSaid :=
  OpenClaim.holds_of_wide 7 Try.f7 rfl rfl rfl rfl rfl rfl rfl ⟨rfl, rfl, rfl, rfl, rfl⟩ rfl rfl rfl rfl rfl cnv_holds_named Try.func7 cnv_holds_closed cnv_holds_inst cnv_holds_wrap
    (fun os started H enc _ => cnv_holds_lifted os started H enc)
#print axioms cnv_holds
end Go.Proofs.Ytgoiodhofbkkdaa

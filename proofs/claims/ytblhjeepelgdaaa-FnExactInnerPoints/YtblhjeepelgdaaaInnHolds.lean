/- The law FnExactInnerPoints returns true for every argument and leaves it as it was: the given statement FnExactInnerPointsSaid. No condition. -/
import Derived.Test.YtblhjeepelgdaaaInnLaw
import Derived.Test.YtblhjeepelgdaaaIo
import Derived.Test.YtblhjeepelgdaaaOpenPt
namespace Go.Proofs.Ytblhjeepelgdaaa
open Go.ChangeShapes Go.WideShapes Go.ChangeAt Go.RowKit Go.Joins
set_option linter.unusedVariables false
set_option maxRecDepth 100000
set_option linter.unusedSimpArgs false

set_option maxRecDepth 100000 in
theorem inn_holds_lifted (os : Os) (started : os.Started) (H : Type) (enc : TypeId × Value → H) :
    ReturnsInHanded {} Try.checked os 11 .any (Rows.fnExactInnerPointsSpec.pre6 enc Try.prog Try.f11 Rows.fnExactInnerPointsRow.domain false) (Rows.fnExactInnerPointsSpec.post enc Try.prog Try.f11 false true false false) := by
  refine returnsInHanded_of_change (C := Try.checked) own started (by kernel_rfl) Try.func11
    (ChangeSpec.witness6 (enc := enc) (C := Try.checked) false ⟨#[], #[.slice none 0 0], []⟩ 8 (by kernel_rfl) (by kernel_rfl) (by kernel_rfl) (by kernel_rfl)) ?_
  intro W base args ds gs before hval0 hW hcnd _
  have hval : ∀ (j : Nat) t v, Try.f11.params[j]? = some t → args[j]? = some v → Value.okWide Try.prog W .any base t v := hval0
  have hW' := hW
  obtain ⟨p, q, hA0, hV, rfl, hfz, hnd⟩ := hW
  have hA : DataW.TrodAll enc Try.prog W 0 (fun _ => true) true Try.f11.params.toList args.toList ds p := hA0
  rw [Try.params11] at hA hval
  obtain ⟨v0, vs0, d0, ds0, p0, q0, hargs, rfl, rfl, h0, r0⟩ := trodAll_cons hA
  obtain ⟨rfl, rfl, rfl⟩ := trodAll_nil r0
  obtain rfl : args = #[v0] := by cases args; simp_all
  obtain ⟨rfl, rfl⟩ := trodVars_none hV
  have lt0 : ∀ x ∈ p0, x.block < W.heap.size := by obtain ⟨m, hm⟩ := h0; exact DataW.trod_lt m _ _ _ hm
  obtain ⟨a0, n0, c0, l0, rfl, sl0, hn0, hm0⟩ := open_TS (hval 0 39 v0 rfl rfl) h0
  clear hA0 hval0
  refine (lawInnerPoints_walk a0 n0 c0 l0 W sl0 hn0 hm0).mono fun e W' ⟨he, bel⟩ => ?_
  subst he
  exact ⟨_, rfl, _, _, _, [], _, [], hW', trodAll_mk1 (shut_bool Try.underlying4 _), (trodAll_cons_mk (Below.trod laidOut (by kernel_rfl) (of_decide_eq_true (by kernel_rfl)) h0 bel lt0) trodAll_mk0), rfl, bel.frame _, fun h => by cases h⟩

theorem inn_holds_c0 : (Rows.fnExactInnerPointsRow.wf (OpenSpec.ofChange Rows.fnExactInnerPointsSpec)) = true := by kernel_rfl
theorem inn_holds_c1 : (laidOutB Try.pinned.checked.prog) = true := by kernel_rfl
theorem inn_holds_c2 : (mapsRowed Try.pinned.checked.prog) = true := by kernel_rfl
theorem inn_holds_c3 : (Try.f11.params.all (Try.pinned.checked.prog.readableRec ·)) = true := by kernel_rfl
theorem inn_holds_c4 : (namedTie Try.pinned.checked.prog Rows.fnExactInnerPointsRow.named Rows.fnExactInnerPointsSpec.vars) = true := by kernel_rfl
theorem inn_holds_c5 : (Rows.fnExactInnerPointsRow.stops == []) = true := by kernel_rfl
theorem inn_holds_c6 : (Try.pinned.checked.prog.stops == []) = true := by kernel_rfl
theorem inn_holds_c7 : (Rows.fnExactInnerPointsRow.knobs == []) = true := by kernel_rfl
theorem inn_holds_c8 : (Try.pinned.checked.prog.stopKnobs == []) = true := by kernel_rfl
theorem inn_holds_c9 : (Rows.fnExactInnerPointsRow.inPlace == Try.pinned.checked.prog.inPlace 11) = true := by kernel_rfl
theorem inn_holds_c10 : (Rows.fnExactInnerPointsRow.unfollowed == Try.pinned.checked.prog.unfollowed 11) = true := by kernel_rfl
theorem inn_holds_c11 : (Rows.fnExactInnerPointsRow.recurses == Try.pinned.checked.prog.recurses 11) = true := by kernel_rfl
theorem inn_holds_c12 : (Rows.fnExactInnerPointsRow.named == Try.pinned.checked.prog.varsNamed 11) = true := by kernel_rfl
theorem inn_holds_c13 : (Rows.fnExactInnerPointsRow.maps == (Try.f11.params.toList ++ Rows.fnExactInnerPointsSpec.plain.varTypes Try.pinned.checked.prog).any (Try.pinned.checked.prog.mapsRec ·)) = true := by kernel_rfl
theorem inn_holds_c14 : (Rows.fnExactInnerPointsRow.ifaces == (Try.f11.params.toList ++ Rows.fnExactInnerPointsSpec.plain.varTypes Try.pinned.checked.prog).any (Try.pinned.checked.prog.ifacesRec ·)) = true := by kernel_rfl
theorem inn_holds_c15 : (Rows.fnExactInnerPointsRow.mapsOut == Try.pinned.checked.prog.mapsAmong Try.f11.resultTypes.toList) = true := by kernel_rfl
theorem inn_holds_c16 : (Rows.fnExactInnerPointsRow.loops == (Try.f11.params.toList ++ Rows.fnExactInnerPointsSpec.plain.varTypes Try.pinned.checked.prog).any (Try.pinned.checked.prog.loopsFrom ·)) = true := by kernel_rfl
theorem inn_holds_c17 : (Rows.fnExactInnerPointsRow.wideKeys == (Try.f11.params.toList ++ Rows.fnExactInnerPointsSpec.plain.varTypes Try.pinned.checked.prog ++ Try.f11.resultTypes.toList).any (Try.pinned.checked.prog.wideKeysFrom ·)) = true := by kernel_rfl
theorem inn_holds_c18 : (Rows.fnExactInnerPointsSpec.vars.all (Try.pinned.checked.prog.varReadable ·)) = true := by kernel_rfl
theorem inn_holds_c19 : (Try.f11.resultTypes.all (fun t => Try.pinned.checked.prog.readableRec t && decide (t < Try.pinned.checked.prog.types.size))) = true := by kernel_rfl
theorem inn_holds_c20 : (Rows.fnExactInnerPointsRow.ifacesOut == Try.f11.resultTypes.toList.any (Try.pinned.checked.prog.ifacesRec ·)) = true := by kernel_rfl
theorem inn_holds_c21 : (Rows.fnExactInnerPointsRow.loopsOut == Try.f11.resultTypes.toList.any (Try.pinned.checked.prog.loopsFrom ·)) = true := by kernel_rfl
theorem inn_holds_c22 : (Rows.fnExactInnerPointsRow.plainKeys == Try.pinned.checked.prog.plainKeys) = true := by kernel_rfl
theorem inn_holds_c23 : (Rows.fnExactInnerPointsRow.shortTexts.isNone) = true := by kernel_rfl
theorem inn_holds_c24 : (Try.pinned.checked.prog.stopsHeard) = true := by kernel_rfl
theorem inn_holds_c25 : (Try.pinned.checked.prog.mayEnter) = true := io_enter
theorem inn_holds_c26 : (Rows.fnExactInnerPointsRow.lifted == Try.pinned.checked.prog.liftsFinal) = true := by rw [io_lifts]; kernel_rfl
theorem inn_holds_c27 : (Try.pinned.checked.prog.make == some Rows.fnExactInnerPointsRow.make) = true := by rw [io_make]; kernel_rfl
theorem inn_holds_c28 : (Rows.fnExactInnerPointsRow.kinds == (if Rows.fnExactInnerPointsRow.domain.isEmpty then [] else Try.f11.params.toList.map fun t => match Try.pinned.checked.prog.underlying t with | some (.int k) => some k | _ => none)) = true := by kernel_rfl
theorem inn_holds_c29 : (Rows.fnExactInnerPointsRow.pinned == Rows.fnExactInnerPointsRow.pinnedBy) = true := by kernel_rfl
theorem inn_holds_c30 : (Rows.fnExactInnerPointsRow.veiled == (Try.f11.params.toList ++ Rows.fnExactInnerPointsSpec.plain.varTypes Try.pinned.checked.prog ++ Try.f11.resultTypes.toList).any (Try.pinned.checked.prog.veiledRec ·)) = true := by kernel_rfl
theorem inn_holds_c31 : (Rows.fnExactInnerPointsRow.veiledFits Try.pinned.checked.prog Try.f11.params.toList (Try.f11.params.toList ++ Rows.fnExactInnerPointsSpec.plain.varTypes Try.pinned.checked.prog ++ Try.f11.resultTypes.toList)) = true := by kernel_rfl
theorem inn_holds_and {a b : Bool} (h : a = true) (k : b = true) : (a && b) = true := by rw [h, k]; rfl
theorem inn_holds_closed : joinedFacts Try.pinned.checked.prog 11 Try.f11 Rows.fnExactInnerPointsSpec Rows.fnExactInnerPointsRow = true := (inn_holds_and (inn_holds_and (inn_holds_and (inn_holds_and (inn_holds_and (inn_holds_and (inn_holds_and (inn_holds_and (inn_holds_and (inn_holds_and (inn_holds_and (inn_holds_and (inn_holds_and (inn_holds_and (inn_holds_and (inn_holds_and (inn_holds_and (inn_holds_and (inn_holds_and (inn_holds_and (inn_holds_and (inn_holds_and (inn_holds_and (inn_holds_and (inn_holds_and (inn_holds_and (inn_holds_and (inn_holds_and (inn_holds_and (inn_holds_and (inn_holds_and inn_holds_c0 inn_holds_c1) inn_holds_c2) inn_holds_c3) inn_holds_c4) inn_holds_c5) inn_holds_c6) inn_holds_c7) inn_holds_c8) inn_holds_c9) inn_holds_c10) inn_holds_c11) inn_holds_c12) inn_holds_c13) inn_holds_c14) inn_holds_c15) inn_holds_c16) inn_holds_c17) inn_holds_c18) inn_holds_c19) inn_holds_c20) inn_holds_c21) inn_holds_c22) inn_holds_c23) inn_holds_c24) inn_holds_c25) inn_holds_c26) inn_holds_c27) inn_holds_c28) inn_holds_c29) inn_holds_c30) inn_holds_c31)
theorem inn_holds_named : Try.pinned.checked.prog.funcNamed Rows.fnExactInnerPointsRow.func = some 11 := by kernel_rfl
theorem inn_holds_inst : Try.f11.isInstance Try.pinned.checked.prog Rows.fnExactInnerPointsRow.origin Rows.fnExactInnerPointsRow.targs := of_decide_eq_true (by kernel_rfl)
theorem inn_holds_wrap : Try.f11.isWrapper Try.pinned.checked.prog Rows.fnExactInnerPointsRow.wrapper Rows.fnExactInnerPointsRow.mainSum := by unfold Func.isWrapper; first | (rw [if_pos (by decide +kernel)]; kernel_rfl) | (rw [if_neg (by decide +kernel)]; exact ⟨rfl, rfl⟩)
theorem inn_holds : Rows.FnExactInnerPointsSaid :=
  OpenClaim.holds_of_wide 11 Try.f11 rfl rfl rfl rfl rfl rfl rfl ⟨rfl, rfl, rfl, rfl, rfl⟩ rfl rfl rfl rfl rfl inn_holds_named Try.func11 inn_holds_closed inn_holds_inst inn_holds_wrap
    (fun os started H enc _ => inn_holds_lifted os started H enc)
#print axioms inn_holds
end Go.Proofs.Ytblhjeepelgdaaa

/- The law FnExactBoxOf returns true for every argument and leaves it as it was: the given statement FnExactBoxOfSaid. No condition. -/
import Derived.Test.YtgphhlhpoffabaaBoxLaw
import Derived.Test.YtgphhlhpoffabaaIo
import Derived.Test.YtgphhlhpoffabaaOpenPt
namespace Go.Proofs.Ytgphhlhpoffabaa
open Go.ChangeShapes Go.WideShapes Go.ChangeAt Go.RowKit Go.Joins
set_option linter.unusedVariables false
set_option maxRecDepth 100000
set_option linter.unusedSimpArgs false

set_option maxRecDepth 100000 in
theorem box_holds_lifted (os : Os) (started : os.Started) (H : Type) (enc : TypeId × Value → H) :
    ReturnsInHanded {} Try.checked os 10 .any (Rows.fnExactBoxOfSpec.pre6 enc Try.prog Try.f10 Rows.fnExactBoxOfRow.domain false) (Rows.fnExactBoxOfSpec.post enc Try.prog Try.f10 false true false false) := by
  refine returnsInHanded_of_change (C := Try.checked) own started (by kernel_rfl) Try.func10
    (ChangeSpec.witness6 (enc := enc) (C := Try.checked) false ⟨#[], #[.slice none 0 0], []⟩ 8 (by kernel_rfl) (by kernel_rfl) (by kernel_rfl) (by kernel_rfl)) ?_
  intro W base args ds gs before hval0 hW hcnd _
  have hval : ∀ (j : Nat) t v, Try.f10.params[j]? = some t → args[j]? = some v → Value.okWide Try.prog W .any base t v := hval0
  have hW' := hW
  obtain ⟨p, q, hA0, hV, rfl, hfz, hnd⟩ := hW
  have hA : DataW.TrodAll enc Try.prog W 0 (fun _ => true) true Try.f10.params.toList args.toList ds p := hA0
  rw [Try.params10] at hA hval
  obtain ⟨v0, vs0, d0, ds0, p0, q0, hargs, rfl, rfl, h0, r0⟩ := trodAll_cons hA
  obtain ⟨rfl, rfl, rfl⟩ := trodAll_nil r0
  obtain rfl : args = #[v0] := by cases args; simp_all
  obtain ⟨rfl, rfl⟩ := trodVars_none hV
  have lt0 : ∀ x ∈ p0, x.block < W.heap.size := by obtain ⟨m, hm⟩ := h0; exact DataW.trod_lt m _ _ _ hm
  obtain ⟨a0, n0, c0, l0, rfl, sl0, hn0, hm0⟩ := open_TS (hval 0 48 v0 rfl rfl) h0
  clear hA0 hval0
  refine (lawBoxOf_walk a0 n0 c0 l0 W sl0 hn0 hm0).mono fun e W' ⟨he, bel⟩ => ?_
  subst he
  exact ⟨_, rfl, _, _, _, [], _, [], hW', trodAll_mk1 (shut_bool Try.underlying4 _), (trodAll_cons_mk (Below.trod laidOut (by kernel_rfl) (of_decide_eq_true (by kernel_rfl)) h0 bel lt0) trodAll_mk0), rfl, bel.frame _, fun h => by cases h⟩

theorem box_holds_c0 : (Rows.fnExactBoxOfRow.wf (OpenSpec.ofChange Rows.fnExactBoxOfSpec)) = true := by kernel_rfl
theorem box_holds_c1 : (laidOutB Try.pinned.checked.prog) = true := by kernel_rfl
theorem box_holds_c2 : (mapsRowed Try.pinned.checked.prog) = true := by kernel_rfl
theorem box_holds_c3 : (Try.f10.params.all (Try.pinned.checked.prog.readableRec ·)) = true := by kernel_rfl
theorem box_holds_c4 : (namedTie Try.pinned.checked.prog Rows.fnExactBoxOfRow.named Rows.fnExactBoxOfSpec.vars) = true := by kernel_rfl
theorem box_holds_c5 : (Rows.fnExactBoxOfRow.stops == []) = true := by kernel_rfl
theorem box_holds_c6 : (Try.pinned.checked.prog.stops == []) = true := by kernel_rfl
theorem box_holds_c7 : (Rows.fnExactBoxOfRow.knobs == []) = true := by kernel_rfl
theorem box_holds_c8 : (Try.pinned.checked.prog.stopKnobs == []) = true := by kernel_rfl
theorem box_holds_c9 : (Rows.fnExactBoxOfRow.inPlace == Try.pinned.checked.prog.inPlace 10) = true := by kernel_rfl
theorem box_holds_c10 : (Rows.fnExactBoxOfRow.unfollowed == Try.pinned.checked.prog.unfollowed 10) = true := by kernel_rfl
theorem box_holds_c11 : (Rows.fnExactBoxOfRow.recurses == Try.pinned.checked.prog.recurses 10) = true := by kernel_rfl
theorem box_holds_c12 : (Rows.fnExactBoxOfRow.named == Try.pinned.checked.prog.varsNamed 10) = true := by kernel_rfl
theorem box_holds_c13 : (Rows.fnExactBoxOfRow.maps == (Try.f10.params.toList ++ Rows.fnExactBoxOfSpec.plain.varTypes Try.pinned.checked.prog).any (Try.pinned.checked.prog.mapsRec ·)) = true := by kernel_rfl
theorem box_holds_c14 : (Rows.fnExactBoxOfRow.ifaces == (Try.f10.params.toList ++ Rows.fnExactBoxOfSpec.plain.varTypes Try.pinned.checked.prog).any (Try.pinned.checked.prog.ifacesRec ·)) = true := by kernel_rfl
theorem box_holds_c15 : (Rows.fnExactBoxOfRow.mapsOut == Try.pinned.checked.prog.mapsAmong Try.f10.resultTypes.toList) = true := by kernel_rfl
theorem box_holds_c16 : (Rows.fnExactBoxOfRow.loops == (Try.f10.params.toList ++ Rows.fnExactBoxOfSpec.plain.varTypes Try.pinned.checked.prog).any (Try.pinned.checked.prog.loopsFrom ·)) = true := by kernel_rfl
theorem box_holds_c17 : (Rows.fnExactBoxOfRow.wideKeys == (Try.f10.params.toList ++ Rows.fnExactBoxOfSpec.plain.varTypes Try.pinned.checked.prog ++ Try.f10.resultTypes.toList).any (Try.pinned.checked.prog.wideKeysFrom ·)) = true := by kernel_rfl
theorem box_holds_c18 : (Rows.fnExactBoxOfSpec.vars.all (Try.pinned.checked.prog.varReadable ·)) = true := by kernel_rfl
theorem box_holds_c19 : (Try.f10.resultTypes.all (fun t => Try.pinned.checked.prog.readableRec t && decide (t < Try.pinned.checked.prog.types.size))) = true := by kernel_rfl
theorem box_holds_c20 : (Rows.fnExactBoxOfRow.ifacesOut == Try.f10.resultTypes.toList.any (Try.pinned.checked.prog.ifacesRec ·)) = true := by kernel_rfl
theorem box_holds_c21 : (Rows.fnExactBoxOfRow.loopsOut == Try.f10.resultTypes.toList.any (Try.pinned.checked.prog.loopsFrom ·)) = true := by kernel_rfl
theorem box_holds_c22 : (Rows.fnExactBoxOfRow.plainKeys == Try.pinned.checked.prog.plainKeys) = true := by kernel_rfl
theorem box_holds_c23 : (Rows.fnExactBoxOfRow.shortTexts.isNone) = true := by kernel_rfl
theorem box_holds_c24 : (Try.pinned.checked.prog.stopsHeard) = true := by kernel_rfl
theorem box_holds_c25 : (Try.pinned.checked.prog.mayEnter) = true := io_enter
theorem box_holds_c26 : (Rows.fnExactBoxOfRow.lifted == Try.pinned.checked.prog.liftsFinal) = true := by rw [io_lifts]; kernel_rfl
theorem box_holds_c27 : (Try.pinned.checked.prog.make == some Rows.fnExactBoxOfRow.make) = true := by rw [io_make]; kernel_rfl
theorem box_holds_c28 : (Rows.fnExactBoxOfRow.kinds == (if Rows.fnExactBoxOfRow.domain.isEmpty then [] else Try.f10.params.toList.map fun t => match Try.pinned.checked.prog.underlying t with | some (.int k) => some k | _ => none)) = true := by kernel_rfl
theorem box_holds_c29 : (Rows.fnExactBoxOfRow.pinned == Rows.fnExactBoxOfRow.pinnedBy) = true := by kernel_rfl
theorem box_holds_c30 : (Rows.fnExactBoxOfRow.veiled == (Try.f10.params.toList ++ Rows.fnExactBoxOfSpec.plain.varTypes Try.pinned.checked.prog ++ Try.f10.resultTypes.toList).any (Try.pinned.checked.prog.veiledRec ·)) = true := by kernel_rfl
theorem box_holds_c31 : (Rows.fnExactBoxOfRow.veiledFits Try.pinned.checked.prog Try.f10.params.toList (Try.f10.params.toList ++ Rows.fnExactBoxOfSpec.plain.varTypes Try.pinned.checked.prog ++ Try.f10.resultTypes.toList)) = true := by kernel_rfl
theorem box_holds_and {a b : Bool} (h : a = true) (k : b = true) : (a && b) = true := by rw [h, k]; rfl
theorem box_holds_closed : joinedFacts Try.pinned.checked.prog 10 Try.f10 Rows.fnExactBoxOfSpec Rows.fnExactBoxOfRow = true := (box_holds_and (box_holds_and (box_holds_and (box_holds_and (box_holds_and (box_holds_and (box_holds_and (box_holds_and (box_holds_and (box_holds_and (box_holds_and (box_holds_and (box_holds_and (box_holds_and (box_holds_and (box_holds_and (box_holds_and (box_holds_and (box_holds_and (box_holds_and (box_holds_and (box_holds_and (box_holds_and (box_holds_and (box_holds_and (box_holds_and (box_holds_and (box_holds_and (box_holds_and (box_holds_and (box_holds_and box_holds_c0 box_holds_c1) box_holds_c2) box_holds_c3) box_holds_c4) box_holds_c5) box_holds_c6) box_holds_c7) box_holds_c8) box_holds_c9) box_holds_c10) box_holds_c11) box_holds_c12) box_holds_c13) box_holds_c14) box_holds_c15) box_holds_c16) box_holds_c17) box_holds_c18) box_holds_c19) box_holds_c20) box_holds_c21) box_holds_c22) box_holds_c23) box_holds_c24) box_holds_c25) box_holds_c26) box_holds_c27) box_holds_c28) box_holds_c29) box_holds_c30) box_holds_c31)
theorem box_holds_named : Try.pinned.checked.prog.funcNamed Rows.fnExactBoxOfRow.func = some 10 := by kernel_rfl
theorem box_holds_inst : Try.f10.isInstance Try.pinned.checked.prog Rows.fnExactBoxOfRow.origin Rows.fnExactBoxOfRow.targs := of_decide_eq_true (by kernel_rfl)
theorem box_holds_wrap : Try.f10.isWrapper Try.pinned.checked.prog Rows.fnExactBoxOfRow.wrapper Rows.fnExactBoxOfRow.mainSum := by unfold Func.isWrapper; first | (rw [if_pos (by decide +kernel)]; kernel_rfl) | (rw [if_neg (by decide +kernel)]; exact ⟨rfl, rfl⟩)
theorem box_holds : Rows.FnExactBoxOfSaid :=
  OpenClaim.holds_of_wide 10 Try.f10 rfl rfl rfl rfl rfl rfl rfl ⟨rfl, rfl, rfl, rfl, rfl⟩ rfl rfl rfl rfl rfl box_holds_named Try.func10 box_holds_closed box_holds_inst box_holds_wrap
    (fun os started H enc _ => box_holds_lifted os started H enc)
#print axioms box_holds
end Go.Proofs.Ytgphhlhpoffabaa

/- The law FnExactGcdInt returns true for every argument and leaves it as it was: the given statement FnExactGcdIntSaid. No condition. -/
import Derived.Test.YtpchoiaombigjaaGciLaw
import Derived.Test.YtpchoiaombigjaaIo
import Derived.Test.YtpchoiaombigjaaOpenI
namespace Go.Proofs.Ytpchoiaombigjaa
open Go.ChangeShapes Go.WideShapes Go.ChangeAt Go.RowKit Go.Joins
set_option linter.unusedVariables false
set_option maxRecDepth 100000
set_option linter.unusedSimpArgs false

set_option maxRecDepth 100000 in
theorem gci_holds_lifted (os : Os) (started : os.Started) (H : Type) (enc : TypeId × Value → H) :
    ReturnsInHanded {} Try.checked os 13 .any (Rows.fnExactGcdIntSpec.pre6 enc Try.prog Try.f13 Rows.fnExactGcdIntRow.domain false) (Rows.fnExactGcdIntSpec.post enc Try.prog Try.f13 false true false false) := by
  refine returnsInHanded_of_change (C := Try.checked) own started (by kernel_rfl) Try.func13
    (ChangeSpec.witness6 (enc := enc) (C := Try.checked) false ⟨#[], #[.int .i64 0, .int .i64 0], []⟩ 8 (by kernel_rfl) (by kernel_rfl) (by kernel_rfl) (by kernel_rfl)) ?_
  intro W base args ds gs before hval0 hW hcnd _
  have hval : ∀ (j : Nat) t v, Try.f13.params[j]? = some t → args[j]? = some v → Value.okWide Try.prog W .any base t v := hval0
  have hW' := hW
  obtain ⟨p, q, hA0, hV, rfl, hfz, hnd⟩ := hW
  have hA : DataW.TrodAll enc Try.prog W 0 (fun _ => true) true Try.f13.params.toList args.toList ds p := hA0
  rw [Try.params13] at hA hval
  obtain ⟨v0, vs0, d0, ds0, p0, q0, hargs, rfl, rfl, h0, r0⟩ := trodAll_cons hA
  obtain ⟨v1, vs1, d1, ds1, p1, q1, rfl, rfl, rfl, h1, r1⟩ := trodAll_cons r0
  obtain ⟨rfl, rfl, rfl⟩ := trodAll_nil r1
  obtain rfl : args = #[v0, v1] := by cases args; simp_all
  obtain ⟨rfl, rfl⟩ := trodVars_none hV
  obtain ⟨x0, rfl, rfl, rfl, w0⟩ := open_int Try.underlying3 (hval 0 3 v0 rfl rfl) h0
  obtain ⟨x1, rfl, rfl, rfl, w1⟩ := open_int Try.underlying3 (hval 1 3 v1 rfl rfl) h1
  clear hA0 hval0
  refine (lawGcdInt_walk x0 x1 W (open_wf w0) (open_wf w1)).mono fun e W' ⟨he, bel⟩ => ?_
  subst he
  exact ⟨_, rfl, _, _, _, [], _, [], hW', trodAll_mk1 (shut_bool Try.underlying4 _), (trodAll_cons_mk (shut_int Try.underlying3 w0) (trodAll_cons_mk (shut_int Try.underlying3 w1) trodAll_mk0)), rfl, bel.frame _, fun h => by cases h⟩

theorem gci_holds_c0 : (Rows.fnExactGcdIntRow.wf (OpenSpec.ofChange Rows.fnExactGcdIntSpec)) = true := by kernel_rfl
theorem gci_holds_c1 : (laidOutB Try.pinned.checked.prog) = true := by kernel_rfl
theorem gci_holds_c2 : (mapsRowed Try.pinned.checked.prog) = true := by kernel_rfl
theorem gci_holds_c3 : (Try.f13.params.all (Try.pinned.checked.prog.readableRec ·)) = true := by kernel_rfl
theorem gci_holds_c4 : (namedTie Try.pinned.checked.prog Rows.fnExactGcdIntRow.named Rows.fnExactGcdIntSpec.vars) = true := by kernel_rfl
theorem gci_holds_c5 : (Rows.fnExactGcdIntRow.stops == []) = true := by kernel_rfl
theorem gci_holds_c6 : (Try.pinned.checked.prog.stops == []) = true := by kernel_rfl
theorem gci_holds_c7 : (Rows.fnExactGcdIntRow.knobs == []) = true := by kernel_rfl
theorem gci_holds_c8 : (Try.pinned.checked.prog.stopKnobs == []) = true := by kernel_rfl
theorem gci_holds_c9 : (Rows.fnExactGcdIntRow.inPlace == Try.pinned.checked.prog.inPlace 13) = true := by kernel_rfl
theorem gci_holds_c10 : (Rows.fnExactGcdIntRow.unfollowed == Try.pinned.checked.prog.unfollowed 13) = true := by kernel_rfl
theorem gci_holds_c11 : (Rows.fnExactGcdIntRow.recurses == Try.pinned.checked.prog.recurses 13) = true := by kernel_rfl
theorem gci_holds_c12 : (Rows.fnExactGcdIntRow.named == Try.pinned.checked.prog.varsNamed 13) = true := by kernel_rfl
theorem gci_holds_c13 : (Rows.fnExactGcdIntRow.maps == (Try.f13.params.toList ++ Rows.fnExactGcdIntSpec.plain.varTypes Try.pinned.checked.prog).any (Try.pinned.checked.prog.mapsRec ·)) = true := by kernel_rfl
theorem gci_holds_c14 : (Rows.fnExactGcdIntRow.ifaces == (Try.f13.params.toList ++ Rows.fnExactGcdIntSpec.plain.varTypes Try.pinned.checked.prog).any (Try.pinned.checked.prog.ifacesRec ·)) = true := by kernel_rfl
theorem gci_holds_c15 : (Rows.fnExactGcdIntRow.mapsOut == Try.pinned.checked.prog.mapsAmong Try.f13.resultTypes.toList) = true := by kernel_rfl
theorem gci_holds_c16 : (Rows.fnExactGcdIntRow.loops == (Try.f13.params.toList ++ Rows.fnExactGcdIntSpec.plain.varTypes Try.pinned.checked.prog).any (Try.pinned.checked.prog.loopsFrom ·)) = true := by kernel_rfl
theorem gci_holds_c17 : (Rows.fnExactGcdIntRow.wideKeys == (Try.f13.params.toList ++ Rows.fnExactGcdIntSpec.plain.varTypes Try.pinned.checked.prog ++ Try.f13.resultTypes.toList).any (Try.pinned.checked.prog.wideKeysFrom ·)) = true := by kernel_rfl
theorem gci_holds_c18 : (Rows.fnExactGcdIntSpec.vars.all (Try.pinned.checked.prog.varReadable ·)) = true := by kernel_rfl
theorem gci_holds_c19 : (Try.f13.resultTypes.all (fun t => Try.pinned.checked.prog.readableRec t && decide (t < Try.pinned.checked.prog.types.size))) = true := by kernel_rfl
theorem gci_holds_c20 : (Rows.fnExactGcdIntRow.ifacesOut == Try.f13.resultTypes.toList.any (Try.pinned.checked.prog.ifacesRec ·)) = true := by kernel_rfl
theorem gci_holds_c21 : (Rows.fnExactGcdIntRow.loopsOut == Try.f13.resultTypes.toList.any (Try.pinned.checked.prog.loopsFrom ·)) = true := by kernel_rfl
theorem gci_holds_c22 : (Rows.fnExactGcdIntRow.plainKeys == Try.pinned.checked.prog.plainKeys) = true := by kernel_rfl
theorem gci_holds_c23 : (Rows.fnExactGcdIntRow.shortTexts.isNone) = true := by kernel_rfl
theorem gci_holds_c24 : (Try.pinned.checked.prog.stopsHeard) = true := by kernel_rfl
theorem gci_holds_c25 : (Try.pinned.checked.prog.mayEnter) = true := io_enter
theorem gci_holds_c26 : (Rows.fnExactGcdIntRow.lifted == Try.pinned.checked.prog.liftsFinal) = true := by rw [io_lifts]; kernel_rfl
theorem gci_holds_c27 : (Try.pinned.checked.prog.make == some Rows.fnExactGcdIntRow.make) = true := by rw [io_make]; kernel_rfl
theorem gci_holds_c28 : (Rows.fnExactGcdIntRow.kinds == (if Rows.fnExactGcdIntRow.domain.isEmpty then [] else Try.f13.params.toList.map fun t => match Try.pinned.checked.prog.underlying t with | some (.int k) => some k | _ => none)) = true := by kernel_rfl
theorem gci_holds_c29 : (Rows.fnExactGcdIntRow.pinned == Rows.fnExactGcdIntRow.pinnedBy) = true := by kernel_rfl
theorem gci_holds_c30 : (Rows.fnExactGcdIntRow.veiled == (Try.f13.params.toList ++ Rows.fnExactGcdIntSpec.plain.varTypes Try.pinned.checked.prog ++ Try.f13.resultTypes.toList).any (Try.pinned.checked.prog.veiledRec ·)) = true := by kernel_rfl
theorem gci_holds_c31 : (Rows.fnExactGcdIntRow.veiledFits Try.pinned.checked.prog Try.f13.params.toList (Try.f13.params.toList ++ Rows.fnExactGcdIntSpec.plain.varTypes Try.pinned.checked.prog ++ Try.f13.resultTypes.toList)) = true := by kernel_rfl
theorem gci_holds_and {a b : Bool} (h : a = true) (k : b = true) : (a && b) = true := by rw [h, k]; rfl
theorem gci_holds_closed : joinedFacts Try.pinned.checked.prog 13 Try.f13 Rows.fnExactGcdIntSpec Rows.fnExactGcdIntRow = true := (gci_holds_and (gci_holds_and (gci_holds_and (gci_holds_and (gci_holds_and (gci_holds_and (gci_holds_and (gci_holds_and (gci_holds_and (gci_holds_and (gci_holds_and (gci_holds_and (gci_holds_and (gci_holds_and (gci_holds_and (gci_holds_and (gci_holds_and (gci_holds_and (gci_holds_and (gci_holds_and (gci_holds_and (gci_holds_and (gci_holds_and (gci_holds_and (gci_holds_and (gci_holds_and (gci_holds_and (gci_holds_and (gci_holds_and (gci_holds_and (gci_holds_and gci_holds_c0 gci_holds_c1) gci_holds_c2) gci_holds_c3) gci_holds_c4) gci_holds_c5) gci_holds_c6) gci_holds_c7) gci_holds_c8) gci_holds_c9) gci_holds_c10) gci_holds_c11) gci_holds_c12) gci_holds_c13) gci_holds_c14) gci_holds_c15) gci_holds_c16) gci_holds_c17) gci_holds_c18) gci_holds_c19) gci_holds_c20) gci_holds_c21) gci_holds_c22) gci_holds_c23) gci_holds_c24) gci_holds_c25) gci_holds_c26) gci_holds_c27) gci_holds_c28) gci_holds_c29) gci_holds_c30) gci_holds_c31)
theorem gci_holds_named : Try.pinned.checked.prog.funcNamed Rows.fnExactGcdIntRow.func = some 13 := by kernel_rfl
theorem gci_holds_inst : Try.f13.isInstance Try.pinned.checked.prog Rows.fnExactGcdIntRow.origin Rows.fnExactGcdIntRow.targs := of_decide_eq_true (by kernel_rfl)
theorem gci_holds_wrap : Try.f13.isWrapper Try.pinned.checked.prog Rows.fnExactGcdIntRow.wrapper Rows.fnExactGcdIntRow.mainSum := by unfold Func.isWrapper; first | (rw [if_pos (by decide +kernel)]; kernel_rfl) | (rw [if_neg (by decide +kernel)]; exact ⟨rfl, rfl⟩)
theorem gci_holds : Rows.FnExactGcdIntSaid :=
  OpenClaim.holds_of_wide 13 Try.f13 rfl rfl rfl rfl rfl rfl rfl ⟨rfl, rfl, rfl, rfl, rfl⟩ rfl rfl rfl rfl rfl gci_holds_named Try.func13 gci_holds_closed gci_holds_inst gci_holds_wrap
    (fun os started H enc _ => gci_holds_lifted os started H enc)
#print axioms gci_holds
end Go.Proofs.Ytpchoiaombigjaa

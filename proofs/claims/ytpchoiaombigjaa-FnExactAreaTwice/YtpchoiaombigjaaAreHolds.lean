/- The law FnExactAreaTwice returns true for every argument and leaves it as it was: the given statement FnExactAreaTwiceSaid. No condition. -/
import Derived.Test.YtpchoiaombigjaaAreLaw
import Derived.Test.YtpchoiaombigjaaIo
import Derived.Test.YtpchoiaombigjaaOpenPt
namespace Go.Proofs.Ytpchoiaombigjaa
open Go.ChangeShapes Go.WideShapes Go.ChangeAt Go.RowKit Go.Joins
set_option linter.unusedVariables false
set_option maxRecDepth 100000
set_option linter.unusedSimpArgs false

set_option maxRecDepth 100000 in
theorem are_holds_lifted (os : Os) (started : os.Started) (H : Type) (enc : TypeId × Value → H) :
    ReturnsInHanded {} Try.checked os 9 .any (Rows.fnExactAreaTwiceSpec.pre6 enc Try.prog Try.f9 Rows.fnExactAreaTwiceRow.domain false) (Rows.fnExactAreaTwiceSpec.post enc Try.prog Try.f9 false true false false) := by
  refine returnsInHanded_of_change (C := Try.checked) own started (by kernel_rfl) Try.func9
    (ChangeSpec.witness6 (enc := enc) (C := Try.checked) false ⟨#[], #[.slice none 0 0], []⟩ 8 (by kernel_rfl) (by kernel_rfl) (by kernel_rfl) (by kernel_rfl)) ?_
  intro W base args ds gs before hval0 hW hcnd _
  have hval : ∀ (j : Nat) t v, Try.f9.params[j]? = some t → args[j]? = some v → Value.okWide Try.prog W .any base t v := hval0
  have hW' := hW
  obtain ⟨p, q, hA0, hV, rfl, hfz, hnd⟩ := hW
  have hA : DataW.TrodAll enc Try.prog W 0 (fun _ => true) true Try.f9.params.toList args.toList ds p := hA0
  rw [Try.params9] at hA hval
  obtain ⟨v0, vs0, d0, ds0, p0, q0, hargs, rfl, rfl, h0, r0⟩ := trodAll_cons hA
  obtain ⟨rfl, rfl, rfl⟩ := trodAll_nil r0
  obtain rfl : args = #[v0] := by cases args; simp_all
  obtain ⟨rfl, rfl⟩ := trodVars_none hV
  have lt0 : ∀ x ∈ p0, x.block < W.heap.size := by obtain ⟨m, hm⟩ := h0; exact DataW.trod_lt m _ _ _ hm
  obtain ⟨a0, n0, c0, l0, rfl, sl0, hn0, hm0⟩ := open_TS (hval 0 57 v0 rfl rfl) h0
  clear hA0 hval0
  refine (lawAreaTwice_walk a0 n0 c0 l0 W sl0 hn0 hm0).mono fun e W' ⟨he, bel⟩ => ?_
  subst he
  exact ⟨_, rfl, _, _, _, [], _, [], hW', trodAll_mk1 (shut_bool Try.underlying4 _), (trodAll_cons_mk (Below.trod laidOut (by kernel_rfl) (of_decide_eq_true (by kernel_rfl)) h0 bel lt0) trodAll_mk0), rfl, bel.frame _, fun h => by cases h⟩

theorem are_holds_c0 : (Rows.fnExactAreaTwiceRow.wf (OpenSpec.ofChange Rows.fnExactAreaTwiceSpec)) = true := by kernel_rfl
theorem are_holds_c1 : (laidOutB Try.pinned.checked.prog) = true := by kernel_rfl
theorem are_holds_c2 : (mapsRowed Try.pinned.checked.prog) = true := by kernel_rfl
theorem are_holds_c3 : (Try.f9.params.all (Try.pinned.checked.prog.readableRec ·)) = true := by kernel_rfl
theorem are_holds_c4 : (namedTie Try.pinned.checked.prog Rows.fnExactAreaTwiceRow.named Rows.fnExactAreaTwiceSpec.vars) = true := by kernel_rfl
theorem are_holds_c5 : (Rows.fnExactAreaTwiceRow.stops == []) = true := by kernel_rfl
theorem are_holds_c6 : (Try.pinned.checked.prog.stops == []) = true := by kernel_rfl
theorem are_holds_c7 : (Rows.fnExactAreaTwiceRow.knobs == []) = true := by kernel_rfl
theorem are_holds_c8 : (Try.pinned.checked.prog.stopKnobs == []) = true := by kernel_rfl
theorem are_holds_c9 : (Rows.fnExactAreaTwiceRow.inPlace == Try.pinned.checked.prog.inPlace 9) = true := by kernel_rfl
theorem are_holds_c10 : (Rows.fnExactAreaTwiceRow.unfollowed == Try.pinned.checked.prog.unfollowed 9) = true := by kernel_rfl
theorem are_holds_c11 : (Rows.fnExactAreaTwiceRow.recurses == Try.pinned.checked.prog.recurses 9) = true := by kernel_rfl
theorem are_holds_c12 : (Rows.fnExactAreaTwiceRow.named == Try.pinned.checked.prog.varsNamed 9) = true := by kernel_rfl
theorem are_holds_c13 : (Rows.fnExactAreaTwiceRow.maps == (Try.f9.params.toList ++ Rows.fnExactAreaTwiceSpec.plain.varTypes Try.pinned.checked.prog).any (Try.pinned.checked.prog.mapsRec ·)) = true := by kernel_rfl
theorem are_holds_c14 : (Rows.fnExactAreaTwiceRow.ifaces == (Try.f9.params.toList ++ Rows.fnExactAreaTwiceSpec.plain.varTypes Try.pinned.checked.prog).any (Try.pinned.checked.prog.ifacesRec ·)) = true := by kernel_rfl
theorem are_holds_c15 : (Rows.fnExactAreaTwiceRow.mapsOut == Try.pinned.checked.prog.mapsAmong Try.f9.resultTypes.toList) = true := by kernel_rfl
theorem are_holds_c16 : (Rows.fnExactAreaTwiceRow.loops == (Try.f9.params.toList ++ Rows.fnExactAreaTwiceSpec.plain.varTypes Try.pinned.checked.prog).any (Try.pinned.checked.prog.loopsFrom ·)) = true := by kernel_rfl
theorem are_holds_c17 : (Rows.fnExactAreaTwiceRow.wideKeys == (Try.f9.params.toList ++ Rows.fnExactAreaTwiceSpec.plain.varTypes Try.pinned.checked.prog ++ Try.f9.resultTypes.toList).any (Try.pinned.checked.prog.wideKeysFrom ·)) = true := by kernel_rfl
theorem are_holds_c18 : (Rows.fnExactAreaTwiceSpec.vars.all (Try.pinned.checked.prog.varReadable ·)) = true := by kernel_rfl
theorem are_holds_c19 : (Try.f9.resultTypes.all (fun t => Try.pinned.checked.prog.readableRec t && decide (t < Try.pinned.checked.prog.types.size))) = true := by kernel_rfl
theorem are_holds_c20 : (Rows.fnExactAreaTwiceRow.ifacesOut == Try.f9.resultTypes.toList.any (Try.pinned.checked.prog.ifacesRec ·)) = true := by kernel_rfl
theorem are_holds_c21 : (Rows.fnExactAreaTwiceRow.loopsOut == Try.f9.resultTypes.toList.any (Try.pinned.checked.prog.loopsFrom ·)) = true := by kernel_rfl
theorem are_holds_c22 : (Rows.fnExactAreaTwiceRow.plainKeys == Try.pinned.checked.prog.plainKeys) = true := by kernel_rfl
theorem are_holds_c23 : (Rows.fnExactAreaTwiceRow.shortTexts.isNone) = true := by kernel_rfl
theorem are_holds_c24 : (Try.pinned.checked.prog.stopsHeard) = true := by kernel_rfl
theorem are_holds_c25 : (Try.pinned.checked.prog.mayEnter) = true := io_enter
theorem are_holds_c26 : (Rows.fnExactAreaTwiceRow.lifted == Try.pinned.checked.prog.liftsFinal) = true := by rw [io_lifts]; kernel_rfl
theorem are_holds_c27 : (Try.pinned.checked.prog.make == some Rows.fnExactAreaTwiceRow.make) = true := by rw [io_make]; kernel_rfl
theorem are_holds_c28 : (Rows.fnExactAreaTwiceRow.kinds == (if Rows.fnExactAreaTwiceRow.domain.isEmpty then [] else Try.f9.params.toList.map fun t => match Try.pinned.checked.prog.underlying t with | some (.int k) => some k | _ => none)) = true := by kernel_rfl
theorem are_holds_c29 : (Rows.fnExactAreaTwiceRow.pinned == Rows.fnExactAreaTwiceRow.pinnedBy) = true := by kernel_rfl
theorem are_holds_c30 : (Rows.fnExactAreaTwiceRow.veiled == (Try.f9.params.toList ++ Rows.fnExactAreaTwiceSpec.plain.varTypes Try.pinned.checked.prog ++ Try.f9.resultTypes.toList).any (Try.pinned.checked.prog.veiledRec ·)) = true := by kernel_rfl
theorem are_holds_c31 : (Rows.fnExactAreaTwiceRow.veiledFits Try.pinned.checked.prog Try.f9.params.toList (Try.f9.params.toList ++ Rows.fnExactAreaTwiceSpec.plain.varTypes Try.pinned.checked.prog ++ Try.f9.resultTypes.toList)) = true := by kernel_rfl
theorem are_holds_and {a b : Bool} (h : a = true) (k : b = true) : (a && b) = true := by rw [h, k]; rfl
theorem are_holds_closed : joinedFacts Try.pinned.checked.prog 9 Try.f9 Rows.fnExactAreaTwiceSpec Rows.fnExactAreaTwiceRow = true := (are_holds_and (are_holds_and (are_holds_and (are_holds_and (are_holds_and (are_holds_and (are_holds_and (are_holds_and (are_holds_and (are_holds_and (are_holds_and (are_holds_and (are_holds_and (are_holds_and (are_holds_and (are_holds_and (are_holds_and (are_holds_and (are_holds_and (are_holds_and (are_holds_and (are_holds_and (are_holds_and (are_holds_and (are_holds_and (are_holds_and (are_holds_and (are_holds_and (are_holds_and (are_holds_and (are_holds_and are_holds_c0 are_holds_c1) are_holds_c2) are_holds_c3) are_holds_c4) are_holds_c5) are_holds_c6) are_holds_c7) are_holds_c8) are_holds_c9) are_holds_c10) are_holds_c11) are_holds_c12) are_holds_c13) are_holds_c14) are_holds_c15) are_holds_c16) are_holds_c17) are_holds_c18) are_holds_c19) are_holds_c20) are_holds_c21) are_holds_c22) are_holds_c23) are_holds_c24) are_holds_c25) are_holds_c26) are_holds_c27) are_holds_c28) are_holds_c29) are_holds_c30) are_holds_c31)
theorem are_holds_named : Try.pinned.checked.prog.funcNamed Rows.fnExactAreaTwiceRow.func = some 9 := by kernel_rfl
theorem are_holds_inst : Try.f9.isInstance Try.pinned.checked.prog Rows.fnExactAreaTwiceRow.origin Rows.fnExactAreaTwiceRow.targs := of_decide_eq_true (by kernel_rfl)
theorem are_holds_wrap : Try.f9.isWrapper Try.pinned.checked.prog Rows.fnExactAreaTwiceRow.wrapper Rows.fnExactAreaTwiceRow.mainSum := by unfold Func.isWrapper; first | (rw [if_pos (by decide +kernel)]; kernel_rfl) | (rw [if_neg (by decide +kernel)]; exact ⟨rfl, rfl⟩)
theorem are_holds : Rows.FnExactAreaTwiceSaid :=
  OpenClaim.holds_of_wide 9 Try.f9 rfl rfl rfl rfl rfl rfl rfl ⟨rfl, rfl, rfl, rfl, rfl⟩ rfl rfl rfl rfl rfl are_holds_named Try.func9 are_holds_closed are_holds_inst are_holds_wrap
    (fun os started H enc _ => are_holds_lifted os started H enc)
#print axioms are_holds
end Go.Proofs.Ytpchoiaombigjaa

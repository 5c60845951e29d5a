/- The law FnExactIsSimple returns true for every argument and leaves it as it was: the given statement FnExactIsSimpleSaid. No condition. -/
import Derived.Test.YtpchoiaombigjaaIsiLaw
import Derived.Test.YtpchoiaombigjaaIo
import Derived.Test.YtpchoiaombigjaaOpenPt
namespace Go.Proofs.Ytpchoiaombigjaa
open Go.ChangeShapes Go.WideShapes Go.ChangeAt Go.RowKit Go.Joins
set_option linter.unusedVariables false
set_option maxRecDepth 100000
set_option linter.unusedSimpArgs false

set_option maxRecDepth 100000 in
theorem isi_holds_lifted (os : Os) (started : os.Started) (H : Type) (enc : TypeId × Value → H) :
    ReturnsInHanded {} Try.checked os 11 .any (Rows.fnExactIsSimpleSpec.pre6 enc Try.prog Try.f11 Rows.fnExactIsSimpleRow.domain false) (Rows.fnExactIsSimpleSpec.post enc Try.prog Try.f11 false true false false) := by
  refine returnsInHanded_of_change (C := Try.checked) own started (by kernel_rfl) Try.func11
    (ChangeSpec.witness6 (enc := enc) (C := Try.checked) false ⟨#[], #[.slice none 0 0], []⟩ 8 (by kernel_rfl) (by kernel_rfl) (by kernel_rfl) (by kernel_rfl)) ?_
  intro W base args ds gs before hval0 hW hcnd _
  have hval : ∀ (j : Nat) t v, Try.f11.params[j]? = some t → args[j]? = some v → Value.okWide Try.prog W .any base t v := hval0
  have hW' := hW
  obtain ⟨p, q, hA0, hV, rfl, hfz, hnd⟩ := hW
  have hA : DataW.TrodAll enc Try.prog W 0 (fun _ => true) true Try.f11.params.toList args.toList ds p := hA0
  rw [Try.params11] at hA hval
  obtain ⟨v0, vs0, d0, ds0, p0, q0, hargs, rfl, rfl, h0, r0⟩ := trodAll_cons hA
  obtain ⟨rfl, rfl, rfl⟩ := trodAll_nil r0
  obtain rfl : args = #[v0] := by cases args; simp_all
  obtain ⟨rfl, rfl⟩ := trodVars_none hV
  have lt0 : ∀ x ∈ p0, x.block < W.heap.size := by obtain ⟨m, hm⟩ := h0; exact DataW.trod_lt m _ _ _ hm
  obtain ⟨a0, n0, c0, l0, rfl, sl0, hn0, hm0⟩ := open_TS (hval 0 57 v0 rfl rfl) h0
  clear hA0 hval0
  refine (lawIsSimple_walk a0 n0 c0 l0 W sl0 hn0 hm0).mono fun e W' ⟨he, bel⟩ => ?_
  subst he
  exact ⟨_, rfl, _, _, _, [], _, [], hW', trodAll_mk1 (shut_bool Try.underlying4 _), (trodAll_cons_mk (Below.trod laidOut (by kernel_rfl) (of_decide_eq_true (by kernel_rfl)) h0 bel lt0) trodAll_mk0), rfl, bel.frame _, fun h => by cases h⟩

theorem isi_holds_c0 : (Rows.fnExactIsSimpleRow.wf (OpenSpec.ofChange Rows.fnExactIsSimpleSpec)) = true := by kernel_rfl
theorem isi_holds_c1 : (laidOutB Try.pinned.checked.prog) = true := by kernel_rfl
theorem isi_holds_c2 : (mapsRowed Try.pinned.checked.prog) = true := by kernel_rfl
theorem isi_holds_c3 : (Try.f11.params.all (Try.pinned.checked.prog.readableRec ·)) = true := by kernel_rfl
theorem isi_holds_c4 : (namedTie Try.pinned.checked.prog Rows.fnExactIsSimpleRow.named Rows.fnExactIsSimpleSpec.vars) = true := by kernel_rfl
theorem isi_holds_c5 : (Rows.fnExactIsSimpleRow.stops == []) = true := by kernel_rfl
theorem isi_holds_c6 : (Try.pinned.checked.prog.stops == []) = true := by kernel_rfl
theorem isi_holds_c7 : (Rows.fnExactIsSimpleRow.knobs == []) = true := by kernel_rfl
theorem isi_holds_c8 : (Try.pinned.checked.prog.stopKnobs == []) = true := by kernel_rfl
theorem isi_holds_c9 : (Rows.fnExactIsSimpleRow.inPlace == Try.pinned.checked.prog.inPlace 11) = true := by kernel_rfl
theorem isi_holds_c10 : (Rows.fnExactIsSimpleRow.unfollowed == Try.pinned.checked.prog.unfollowed 11) = true := by kernel_rfl
theorem isi_holds_c11 : (Rows.fnExactIsSimpleRow.recurses == Try.pinned.checked.prog.recurses 11) = true := by kernel_rfl
theorem isi_holds_c12 : (Rows.fnExactIsSimpleRow.named == Try.pinned.checked.prog.varsNamed 11) = true := by kernel_rfl
theorem isi_holds_c13 : (Rows.fnExactIsSimpleRow.maps == (Try.f11.params.toList ++ Rows.fnExactIsSimpleSpec.plain.varTypes Try.pinned.checked.prog).any (Try.pinned.checked.prog.mapsRec ·)) = true := by kernel_rfl
theorem isi_holds_c14 : (Rows.fnExactIsSimpleRow.ifaces == (Try.f11.params.toList ++ Rows.fnExactIsSimpleSpec.plain.varTypes Try.pinned.checked.prog).any (Try.pinned.checked.prog.ifacesRec ·)) = true := by kernel_rfl
theorem isi_holds_c15 : (Rows.fnExactIsSimpleRow.mapsOut == Try.pinned.checked.prog.mapsAmong Try.f11.resultTypes.toList) = true := by kernel_rfl
theorem isi_holds_c16 : (Rows.fnExactIsSimpleRow.loops == (Try.f11.params.toList ++ Rows.fnExactIsSimpleSpec.plain.varTypes Try.pinned.checked.prog).any (Try.pinned.checked.prog.loopsFrom ·)) = true := by kernel_rfl
theorem isi_holds_c17 : (Rows.fnExactIsSimpleRow.wideKeys == (Try.f11.params.toList ++ Rows.fnExactIsSimpleSpec.plain.varTypes Try.pinned.checked.prog ++ Try.f11.resultTypes.toList).any (Try.pinned.checked.prog.wideKeysFrom ·)) = true := by kernel_rfl
theorem isi_holds_c18 : (Rows.fnExactIsSimpleSpec.vars.all (Try.pinned.checked.prog.varReadable ·)) = true := by kernel_rfl
theorem isi_holds_c19 : (Try.f11.resultTypes.all (fun t => Try.pinned.checked.prog.readableRec t && decide (t < Try.pinned.checked.prog.types.size))) = true := by kernel_rfl
theorem isi_holds_c20 : (Rows.fnExactIsSimpleRow.ifacesOut == Try.f11.resultTypes.toList.any (Try.pinned.checked.prog.ifacesRec ·)) = true := by kernel_rfl
theorem isi_holds_c21 : (Rows.fnExactIsSimpleRow.loopsOut == Try.f11.resultTypes.toList.any (Try.pinned.checked.prog.loopsFrom ·)) = true := by kernel_rfl
theorem isi_holds_c22 : (Rows.fnExactIsSimpleRow.plainKeys == Try.pinned.checked.prog.plainKeys) = true := by kernel_rfl
theorem isi_holds_c23 : (Rows.fnExactIsSimpleRow.shortTexts.isNone) = true := by kernel_rfl
theorem isi_holds_c24 : (Try.pinned.checked.prog.stopsHeard) = true := by kernel_rfl
theorem isi_holds_c25 : (Try.pinned.checked.prog.mayEnter) = true := io_enter
theorem isi_holds_c26 : (Rows.fnExactIsSimpleRow.lifted == Try.pinned.checked.prog.liftsFinal) = true := by rw [io_lifts]; kernel_rfl
theorem isi_holds_c27 : (Try.pinned.checked.prog.make == some Rows.fnExactIsSimpleRow.make) = true := by rw [io_make]; kernel_rfl
theorem isi_holds_c28 : (Rows.fnExactIsSimpleRow.kinds == (if Rows.fnExactIsSimpleRow.domain.isEmpty then [] else Try.f11.params.toList.map fun t => match Try.pinned.checked.prog.underlying t with | some (.int k) => some k | _ => none)) = true := by kernel_rfl
theorem isi_holds_c29 : (Rows.fnExactIsSimpleRow.pinned == Rows.fnExactIsSimpleRow.pinnedBy) = true := by kernel_rfl
theorem isi_holds_c30 : (Rows.fnExactIsSimpleRow.veiled == (Try.f11.params.toList ++ Rows.fnExactIsSimpleSpec.plain.varTypes Try.pinned.checked.prog ++ Try.f11.resultTypes.toList).any (Try.pinned.checked.prog.veiledRec ·)) = true := by kernel_rfl
theorem isi_holds_c31 : (Rows.fnExactIsSimpleRow.veiledFits Try.pinned.checked.prog Try.f11.params.toList (Try.f11.params.toList ++ Rows.fnExactIsSimpleSpec.plain.varTypes Try.pinned.checked.prog ++ Try.f11.resultTypes.toList)) = true := by kernel_rfl
theorem isi_holds_and {a b : Bool} (h : a = true) (k : b = true) : (a && b) = true := by rw [h, k]; rfl
theorem isi_holds_closed : joinedFacts Try.pinned.checked.prog 11 Try.f11 Rows.fnExactIsSimpleSpec Rows.fnExactIsSimpleRow = true := (isi_holds_and (isi_holds_and (isi_holds_and (isi_holds_and (isi_holds_and (isi_holds_and (isi_holds_and (isi_holds_and (isi_holds_and (isi_holds_and (isi_holds_and (isi_holds_and (isi_holds_and (isi_holds_and (isi_holds_and (isi_holds_and (isi_holds_and (isi_holds_and (isi_holds_and (isi_holds_and (isi_holds_and (isi_holds_and (isi_holds_and (isi_holds_and (isi_holds_and (isi_holds_and (isi_holds_and (isi_holds_and (isi_holds_and (isi_holds_and (isi_holds_and isi_holds_c0 isi_holds_c1) isi_holds_c2) isi_holds_c3) isi_holds_c4) isi_holds_c5) isi_holds_c6) isi_holds_c7) isi_holds_c8) isi_holds_c9) isi_holds_c10) isi_holds_c11) isi_holds_c12) isi_holds_c13) isi_holds_c14) isi_holds_c15) isi_holds_c16) isi_holds_c17) isi_holds_c18) isi_holds_c19) isi_holds_c20) isi_holds_c21) isi_holds_c22) isi_holds_c23) isi_holds_c24) isi_holds_c25) isi_holds_c26) isi_holds_c27) isi_holds_c28) isi_holds_c29) isi_holds_c30) isi_holds_c31)
theorem isi_holds_named : Try.pinned.checked.prog.funcNamed Rows.fnExactIsSimpleRow.func = some 11 := by kernel_rfl
theorem isi_holds_inst : Try.f11.isInstance Try.pinned.checked.prog Rows.fnExactIsSimpleRow.origin Rows.fnExactIsSimpleRow.targs := of_decide_eq_true (by kernel_rfl)
theorem isi_holds_wrap : Try.f11.isWrapper Try.pinned.checked.prog Rows.fnExactIsSimpleRow.wrapper Rows.fnExactIsSimpleRow.mainSum := by unfold Func.isWrapper; first | (rw [if_pos (by decide +kernel)]; kernel_rfl) | (rw [if_neg (by decide +kernel)]; exact ⟨rfl, rfl⟩)
theorem isi_holds : Rows.FnExactIsSimpleSaid :=
  OpenClaim.holds_of_wide 11 Try.f11 rfl rfl rfl rfl rfl rfl rfl ⟨rfl, rfl, rfl, rfl, rfl⟩ rfl rfl rfl rfl rfl isi_holds_named Try.func11 isi_holds_closed isi_holds_inst isi_holds_wrap
    (fun os started H enc _ => isi_holds_lifted os started H enc)
#print axioms isi_holds
end Go.Proofs.Ytpchoiaombigjaa

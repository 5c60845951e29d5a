/- The law FnExactSubRat returns true for every argument and leaves it as it was: the given statement FnExactSubRatSaid. No condition. -/
import Derived.Test.YtlmeokeanihhoaaSubRLaw
import Derived.Test.YtlmeokeanihhoaaIo
import Derived.Test.YtlmeokeanihhoaaOpenQ
namespace Go.Proofs.Ytlmeokeanihhoaa
open Go.ChangeShapes Go.WideShapes Go.ChangeAt Go.RowKit Go.Joins
set_option linter.unusedVariables false
set_option maxRecDepth 100000
set_option linter.unusedSimpArgs false

set_option maxRecDepth 100000 in
theorem subR_holds_lifted (os : Os) (started : os.Started) (H : Type) (enc : TypeId × Value → H) :
    ReturnsInHanded {} Try.checked os 4 .any (Rows.fnExactSubRatSpec.pre6 enc Try.prog Try.f4 Rows.fnExactSubRatRow.domain false) (Rows.fnExactSubRatSpec.post enc Try.prog Try.f4 false true false false) := by
  refine returnsInHanded_of_change (C := Try.checked) own started (by kernel_rfl) Try.func4
    (ChangeSpec.witness6 (enc := enc) (C := Try.checked) false ⟨#[], #[.agg #[.bool false, .slice none 0 0, .bool false, .slice none 0 0], .agg #[.bool false, .slice none 0 0, .bool false, .slice none 0 0]], []⟩ 8 (by kernel_rfl) (by kernel_rfl) (by kernel_rfl) (by kernel_rfl)) ?_
  intro W base args ds gs before hval0 hW hcnd _
  have hval : ∀ (j : Nat) t v, Try.f4.params[j]? = some t → args[j]? = some v → Value.okWide Try.prog W .any base t v := hval0
  have hW' := hW
  obtain ⟨p, q, hA0, hV, rfl, hfz, hnd⟩ := hW
  have hA : DataW.TrodAll enc Try.prog W 0 (fun _ => true) true Try.f4.params.toList args.toList ds p := hA0
  rw [Try.params4] at hA hval
  obtain ⟨v0, vs0, d0, ds0, p0, q0, hargs, rfl, rfl, h0, r0⟩ := trodAll_cons hA
  obtain ⟨v1, vs1, d1, ds1, p1, q1, rfl, rfl, rfl, h1, r1⟩ := trodAll_cons r0
  obtain ⟨rfl, rfl, rfl⟩ := trodAll_nil r1
  obtain rfl : args = #[v0, v1] := by cases args; simp_all
  obtain ⟨rfl, rfl⟩ := trodVars_none hV
  have lt0 : ∀ x ∈ p0, x.block < W.heap.size := by obtain ⟨m, hm⟩ := h0; exact DataW.trod_lt m _ _ _ hm
  obtain ⟨u0, e0, rfl, sl0, m0_0, m0_1⟩ := open_Q (hval 0 26 v0 rfl rfl) h0
  have lt1 : ∀ x ∈ p1, x.block < W.heap.size := by obtain ⟨m, hm⟩ := h1; exact DataW.trod_lt m _ _ _ hm
  obtain ⟨u1, e1, rfl, sl1, m1_0, m1_1⟩ := open_Q (hval 1 26 v1 rfl rfl) h1
  clear hA0 hval0
  refine (lawSubR_walk u0 u1 e0 e1 W sl0 sl1 m0_0 m0_1 m1_0 m1_1).mono fun e W' ⟨he, bel⟩ => ?_
  subst he
  exact ⟨_, rfl, _, _, _, [], _, [], hW', trodAll_mk1 (shut_bool Try.underlying4 _), (trodAll_cons_mk (Below.trod laidOut (by kernel_rfl) (of_decide_eq_true (by kernel_rfl)) h0 bel lt0) (trodAll_cons_mk (Below.trod laidOut (by kernel_rfl) (of_decide_eq_true (by kernel_rfl)) h1 bel lt1) trodAll_mk0)), rfl, bel.frame _, fun h => by cases h⟩

theorem subR_holds_c0 : (Rows.fnExactSubRatRow.wf (OpenSpec.ofChange Rows.fnExactSubRatSpec)) = true := by kernel_rfl
theorem subR_holds_c1 : (laidOutB Try.pinned.checked.prog) = true := by kernel_rfl
theorem subR_holds_c2 : (mapsRowed Try.pinned.checked.prog) = true := by kernel_rfl
theorem subR_holds_c3 : (Try.f4.params.all (Try.pinned.checked.prog.readableRec ·)) = true := by kernel_rfl
theorem subR_holds_c4 : (namedTie Try.pinned.checked.prog Rows.fnExactSubRatRow.named Rows.fnExactSubRatSpec.vars) = true := by kernel_rfl
theorem subR_holds_c5 : (Rows.fnExactSubRatRow.stops == []) = true := by kernel_rfl
theorem subR_holds_c6 : (Try.pinned.checked.prog.stops == []) = true := by kernel_rfl
theorem subR_holds_c7 : (Rows.fnExactSubRatRow.knobs == []) = true := by kernel_rfl
theorem subR_holds_c8 : (Try.pinned.checked.prog.stopKnobs == []) = true := by kernel_rfl
theorem subR_holds_c9 : (Rows.fnExactSubRatRow.inPlace == Try.pinned.checked.prog.inPlace 4) = true := by kernel_rfl
theorem subR_holds_c10 : (Rows.fnExactSubRatRow.unfollowed == Try.pinned.checked.prog.unfollowed 4) = true := by kernel_rfl
theorem subR_holds_c11 : (Rows.fnExactSubRatRow.recurses == Try.pinned.checked.prog.recurses 4) = true := by kernel_rfl
theorem subR_holds_c12 : (Rows.fnExactSubRatRow.named == Try.pinned.checked.prog.varsNamed 4) = true := by kernel_rfl
theorem subR_holds_c13 : (Rows.fnExactSubRatRow.maps == (Try.f4.params.toList ++ Rows.fnExactSubRatSpec.plain.varTypes Try.pinned.checked.prog).any (Try.pinned.checked.prog.mapsRec ·)) = true := by kernel_rfl
theorem subR_holds_c14 : (Rows.fnExactSubRatRow.ifaces == (Try.f4.params.toList ++ Rows.fnExactSubRatSpec.plain.varTypes Try.pinned.checked.prog).any (Try.pinned.checked.prog.ifacesRec ·)) = true := by kernel_rfl
theorem subR_holds_c15 : (Rows.fnExactSubRatRow.mapsOut == Try.pinned.checked.prog.mapsAmong Try.f4.resultTypes.toList) = true := by kernel_rfl
theorem subR_holds_c16 : (Rows.fnExactSubRatRow.loops == (Try.f4.params.toList ++ Rows.fnExactSubRatSpec.plain.varTypes Try.pinned.checked.prog).any (Try.pinned.checked.prog.loopsFrom ·)) = true := by kernel_rfl
theorem subR_holds_c17 : (Rows.fnExactSubRatRow.wideKeys == (Try.f4.params.toList ++ Rows.fnExactSubRatSpec.plain.varTypes Try.pinned.checked.prog ++ Try.f4.resultTypes.toList).any (Try.pinned.checked.prog.wideKeysFrom ·)) = true := by kernel_rfl
theorem subR_holds_c18 : (Rows.fnExactSubRatSpec.vars.all (Try.pinned.checked.prog.varReadable ·)) = true := by kernel_rfl
theorem subR_holds_c19 : (Try.f4.resultTypes.all (fun t => Try.pinned.checked.prog.readableRec t && decide (t < Try.pinned.checked.prog.types.size))) = true := by kernel_rfl
theorem subR_holds_c20 : (Rows.fnExactSubRatRow.ifacesOut == Try.f4.resultTypes.toList.any (Try.pinned.checked.prog.ifacesRec ·)) = true := by kernel_rfl
theorem subR_holds_c21 : (Rows.fnExactSubRatRow.loopsOut == Try.f4.resultTypes.toList.any (Try.pinned.checked.prog.loopsFrom ·)) = true := by kernel_rfl
theorem subR_holds_c22 : (Rows.fnExactSubRatRow.plainKeys == Try.pinned.checked.prog.plainKeys) = true := by kernel_rfl
theorem subR_holds_c23 : (Rows.fnExactSubRatRow.shortTexts.isNone) = true := by kernel_rfl
theorem subR_holds_c24 : (Try.pinned.checked.prog.stopsHeard) = true := by kernel_rfl
theorem subR_holds_c25 : (Try.pinned.checked.prog.mayEnter) = true := io_enter
theorem subR_holds_c26 : (Rows.fnExactSubRatRow.lifted == Try.pinned.checked.prog.liftsFinal) = true := by rw [io_lifts]; kernel_rfl
theorem subR_holds_c27 : (Try.pinned.checked.prog.make == some Rows.fnExactSubRatRow.make) = true := by rw [io_make]; kernel_rfl
theorem subR_holds_c28 : (Rows.fnExactSubRatRow.kinds == (if Rows.fnExactSubRatRow.domain.isEmpty then [] else Try.f4.params.toList.map fun t => match Try.pinned.checked.prog.underlying t with | some (.int k) => some k | _ => none)) = true := by kernel_rfl
theorem subR_holds_c29 : (Rows.fnExactSubRatRow.pinned == Rows.fnExactSubRatRow.pinnedBy) = true := by kernel_rfl
theorem subR_holds_c30 : (Rows.fnExactSubRatRow.veiled == (Try.f4.params.toList ++ Rows.fnExactSubRatSpec.plain.varTypes Try.pinned.checked.prog ++ Try.f4.resultTypes.toList).any (Try.pinned.checked.prog.veiledRec ·)) = true := by kernel_rfl
theorem subR_holds_c31 : (Rows.fnExactSubRatRow.veiledFits Try.pinned.checked.prog Try.f4.params.toList (Try.f4.params.toList ++ Rows.fnExactSubRatSpec.plain.varTypes Try.pinned.checked.prog ++ Try.f4.resultTypes.toList)) = true := by kernel_rfl
theorem subR_holds_and {a b : Bool} (h : a = true) (k : b = true) : (a && b) = true := by rw [h, k]; rfl
theorem subR_holds_closed : joinedFacts Try.pinned.checked.prog 4 Try.f4 Rows.fnExactSubRatSpec Rows.fnExactSubRatRow = true := (subR_holds_and (subR_holds_and (subR_holds_and (subR_holds_and (subR_holds_and (subR_holds_and (subR_holds_and (subR_holds_and (subR_holds_and (subR_holds_and (subR_holds_and (subR_holds_and (subR_holds_and (subR_holds_and (subR_holds_and (subR_holds_and (subR_holds_and (subR_holds_and (subR_holds_and (subR_holds_and (subR_holds_and (subR_holds_and (subR_holds_and (subR_holds_and (subR_holds_and (subR_holds_and (subR_holds_and (subR_holds_and (subR_holds_and (subR_holds_and (subR_holds_and subR_holds_c0 subR_holds_c1) subR_holds_c2) subR_holds_c3) subR_holds_c4) subR_holds_c5) subR_holds_c6) subR_holds_c7) subR_holds_c8) subR_holds_c9) subR_holds_c10) subR_holds_c11) subR_holds_c12) subR_holds_c13) subR_holds_c14) subR_holds_c15) subR_holds_c16) subR_holds_c17) subR_holds_c18) subR_holds_c19) subR_holds_c20) subR_holds_c21) subR_holds_c22) subR_holds_c23) subR_holds_c24) subR_holds_c25) subR_holds_c26) subR_holds_c27) subR_holds_c28) subR_holds_c29) subR_holds_c30) subR_holds_c31)
theorem subR_holds_named : Try.pinned.checked.prog.funcNamed Rows.fnExactSubRatRow.func = some 4 := by kernel_rfl
theorem subR_holds_inst : Try.f4.isInstance Try.pinned.checked.prog Rows.fnExactSubRatRow.origin Rows.fnExactSubRatRow.targs := of_decide_eq_true (by kernel_rfl)
theorem subR_holds_wrap : Try.f4.isWrapper Try.pinned.checked.prog Rows.fnExactSubRatRow.wrapper Rows.fnExactSubRatRow.mainSum := by unfold Func.isWrapper; first | (rw [if_pos (by decide +kernel)]; kernel_rfl) | (rw [if_neg (by decide +kernel)]; exact ⟨rfl, rfl⟩)
theorem subR_holds : Rows.FnExactSubRatSaid :=
  OpenClaim.holds_of_wide 4 Try.f4 rfl rfl rfl rfl rfl rfl rfl ⟨rfl, rfl, rfl, rfl, rfl⟩ rfl rfl rfl rfl rfl subR_holds_named Try.func4 subR_holds_closed subR_holds_inst subR_holds_wrap
    (fun os started H enc _ => subR_holds_lifted os started H enc)
#print axioms subR_holds
end Go.Proofs.Ytlmeokeanihhoaa

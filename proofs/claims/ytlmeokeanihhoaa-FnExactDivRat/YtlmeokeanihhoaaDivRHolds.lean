/- The law FnExactDivRat returns true for every argument and leaves it as it was: the given statement FnExactDivRatSaid. No condition. -/
import Derived.Test.YtlmeokeanihhoaaDivRLaw
import Derived.Test.YtlmeokeanihhoaaIo
import Derived.Test.YtlmeokeanihhoaaOpenQ
namespace Go.Proofs.Ytlmeokeanihhoaa
open Go.ChangeShapes Go.WideShapes Go.ChangeAt Go.RowKit Go.Joins
set_option linter.unusedVariables false
set_option maxRecDepth 100000
set_option linter.unusedSimpArgs false

set_option maxRecDepth 100000 in
theorem divR_holds_lifted (os : Os) (started : os.Started) (H : Type) (enc : TypeId × Value → H) :
    ReturnsInHanded {} Try.checked os 6 .any (Rows.fnExactDivRatSpec.pre6 enc Try.prog Try.f6 Rows.fnExactDivRatRow.domain false) (Rows.fnExactDivRatSpec.post enc Try.prog Try.f6 false true false false) := by
  refine returnsInHanded_of_change (C := Try.checked) own started (by kernel_rfl) Try.func6
    (ChangeSpec.witness6 (enc := enc) (C := Try.checked) false ⟨#[], #[.agg #[.bool false, .slice none 0 0, .bool false, .slice none 0 0], .agg #[.bool false, .slice none 0 0, .bool false, .slice none 0 0]], []⟩ 8 (by kernel_rfl) (by kernel_rfl) (by kernel_rfl) (by kernel_rfl)) ?_
  intro W base args ds gs before hval0 hW hcnd _
  have hval : ∀ (j : Nat) t v, Try.f6.params[j]? = some t → args[j]? = some v → Value.okWide Try.prog W .any base t v := hval0
  have hW' := hW
  obtain ⟨p, q, hA0, hV, rfl, hfz, hnd⟩ := hW
  have hA : DataW.TrodAll enc Try.prog W 0 (fun _ => true) true Try.f6.params.toList args.toList ds p := hA0
  rw [Try.params6] at hA hval
  obtain ⟨v0, vs0, d0, ds0, p0, q0, hargs, rfl, rfl, h0, r0⟩ := trodAll_cons hA
  obtain ⟨v1, vs1, d1, ds1, p1, q1, rfl, rfl, rfl, h1, r1⟩ := trodAll_cons r0
  obtain ⟨rfl, rfl, rfl⟩ := trodAll_nil r1
  obtain rfl : args = #[v0, v1] := by cases args; simp_all
  obtain ⟨rfl, rfl⟩ := trodVars_none hV
  have lt0 : ∀ x ∈ p0, x.block < W.heap.size := by obtain ⟨m, hm⟩ := h0; exact DataW.trod_lt m _ _ _ hm
  obtain ⟨u0, e0, rfl, sl0, m0_0, m0_1⟩ := open_Q (hval 0 26 v0 rfl rfl) h0
  have lt1 : ∀ x ∈ p1, x.block < W.heap.size := by obtain ⟨m, hm⟩ := h1; exact DataW.trod_lt m _ _ _ hm
  obtain ⟨u1, e1, rfl, sl1, m1_0, m1_1⟩ := open_Q (hval 1 26 v1 rfl rfl) h1
  clear hA0 hval0
  refine (lawDivR_walk u0 u1 e0 e1 W sl0 sl1 m0_0 m0_1 m1_0 m1_1).mono fun e W' ⟨he, bel⟩ => ?_
  subst he
  exact ⟨_, rfl, _, _, _, [], _, [], hW', trodAll_mk1 (shut_bool Try.underlying4 _), (trodAll_cons_mk (Below.trod laidOut (by kernel_rfl) (of_decide_eq_true (by kernel_rfl)) h0 bel lt0) (trodAll_cons_mk (Below.trod laidOut (by kernel_rfl) (of_decide_eq_true (by kernel_rfl)) h1 bel lt1) trodAll_mk0)), rfl, bel.frame _, fun h => by cases h⟩

theorem divR_holds_c0 : (Rows.fnExactDivRatRow.wf (OpenSpec.ofChange Rows.fnExactDivRatSpec)) = true := by kernel_rfl
theorem divR_holds_c1 : (laidOutB Try.pinned.checked.prog) = true := by kernel_rfl
theorem divR_holds_c2 : (mapsRowed Try.pinned.checked.prog) = true := by kernel_rfl
theorem divR_holds_c3 : (Try.f6.params.all (Try.pinned.checked.prog.readableRec ·)) = true := by kernel_rfl
theorem divR_holds_c4 : (namedTie Try.pinned.checked.prog Rows.fnExactDivRatRow.named Rows.fnExactDivRatSpec.vars) = true := by kernel_rfl
theorem divR_holds_c5 : (Rows.fnExactDivRatRow.stops == []) = true := by kernel_rfl
theorem divR_holds_c6 : (Try.pinned.checked.prog.stops == []) = true := by kernel_rfl
theorem divR_holds_c7 : (Rows.fnExactDivRatRow.knobs == []) = true := by kernel_rfl
theorem divR_holds_c8 : (Try.pinned.checked.prog.stopKnobs == []) = true := by kernel_rfl
theorem divR_holds_c9 : (Rows.fnExactDivRatRow.inPlace == Try.pinned.checked.prog.inPlace 6) = true := by kernel_rfl
theorem divR_holds_c10 : (Rows.fnExactDivRatRow.unfollowed == Try.pinned.checked.prog.unfollowed 6) = true := by kernel_rfl
theorem divR_holds_c11 : (Rows.fnExactDivRatRow.recurses == Try.pinned.checked.prog.recurses 6) = true := by kernel_rfl
theorem divR_holds_c12 : (Rows.fnExactDivRatRow.named == Try.pinned.checked.prog.varsNamed 6) = true := by kernel_rfl
theorem divR_holds_c13 : (Rows.fnExactDivRatRow.maps == (Try.f6.params.toList ++ Rows.fnExactDivRatSpec.plain.varTypes Try.pinned.checked.prog).any (Try.pinned.checked.prog.mapsRec ·)) = true := by kernel_rfl
theorem divR_holds_c14 : (Rows.fnExactDivRatRow.ifaces == (Try.f6.params.toList ++ Rows.fnExactDivRatSpec.plain.varTypes Try.pinned.checked.prog).any (Try.pinned.checked.prog.ifacesRec ·)) = true := by kernel_rfl
theorem divR_holds_c15 : (Rows.fnExactDivRatRow.mapsOut == Try.pinned.checked.prog.mapsAmong Try.f6.resultTypes.toList) = true := by kernel_rfl
theorem divR_holds_c16 : (Rows.fnExactDivRatRow.loops == (Try.f6.params.toList ++ Rows.fnExactDivRatSpec.plain.varTypes Try.pinned.checked.prog).any (Try.pinned.checked.prog.loopsFrom ·)) = true := by kernel_rfl
theorem divR_holds_c17 : (Rows.fnExactDivRatRow.wideKeys == (Try.f6.params.toList ++ Rows.fnExactDivRatSpec.plain.varTypes Try.pinned.checked.prog ++ Try.f6.resultTypes.toList).any (Try.pinned.checked.prog.wideKeysFrom ·)) = true := by kernel_rfl
theorem divR_holds_c18 : (Rows.fnExactDivRatSpec.vars.all (Try.pinned.checked.prog.varReadable ·)) = true := by kernel_rfl
theorem divR_holds_c19 : (Try.f6.resultTypes.all (fun t => Try.pinned.checked.prog.readableRec t && decide (t < Try.pinned.checked.prog.types.size))) = true := by kernel_rfl
theorem divR_holds_c20 : (Rows.fnExactDivRatRow.ifacesOut == Try.f6.resultTypes.toList.any (Try.pinned.checked.prog.ifacesRec ·)) = true := by kernel_rfl
theorem divR_holds_c21 : (Rows.fnExactDivRatRow.loopsOut == Try.f6.resultTypes.toList.any (Try.pinned.checked.prog.loopsFrom ·)) = true := by kernel_rfl
theorem divR_holds_c22 : (Rows.fnExactDivRatRow.plainKeys == Try.pinned.checked.prog.plainKeys) = true := by kernel_rfl
theorem divR_holds_c23 : (Rows.fnExactDivRatRow.shortTexts.isNone) = true := by kernel_rfl
theorem divR_holds_c24 : (Try.pinned.checked.prog.stopsHeard) = true := by kernel_rfl
theorem divR_holds_c25 : (Try.pinned.checked.prog.mayEnter) = true := io_enter
theorem divR_holds_c26 : (Rows.fnExactDivRatRow.lifted == Try.pinned.checked.prog.liftsFinal) = true := by rw [io_lifts]; kernel_rfl
theorem divR_holds_c27 : (Try.pinned.checked.prog.make == some Rows.fnExactDivRatRow.make) = true := by rw [io_make]; kernel_rfl
theorem divR_holds_c28 : (Rows.fnExactDivRatRow.kinds == (if Rows.fnExactDivRatRow.domain.isEmpty then [] else Try.f6.params.toList.map fun t => match Try.pinned.checked.prog.underlying t with | some (.int k) => some k | _ => none)) = true := by kernel_rfl
theorem divR_holds_c29 : (Rows.fnExactDivRatRow.pinned == Rows.fnExactDivRatRow.pinnedBy) = true := by kernel_rfl
theorem divR_holds_c30 : (Rows.fnExactDivRatRow.veiled == (Try.f6.params.toList ++ Rows.fnExactDivRatSpec.plain.varTypes Try.pinned.checked.prog ++ Try.f6.resultTypes.toList).any (Try.pinned.checked.prog.veiledRec ·)) = true := by kernel_rfl
theorem divR_holds_c31 : (Rows.fnExactDivRatRow.veiledFits Try.pinned.checked.prog Try.f6.params.toList (Try.f6.params.toList ++ Rows.fnExactDivRatSpec.plain.varTypes Try.pinned.checked.prog ++ Try.f6.resultTypes.toList)) = true := by kernel_rfl
theorem divR_holds_and {a b : Bool} (h : a = true) (k : b = true) : (a && b) = true := by rw [h, k]; rfl
theorem divR_holds_closed : joinedFacts Try.pinned.checked.prog 6 Try.f6 Rows.fnExactDivRatSpec Rows.fnExactDivRatRow = true := (divR_holds_and (divR_holds_and (divR_holds_and (divR_holds_and (divR_holds_and (divR_holds_and (divR_holds_and (divR_holds_and (divR_holds_and (divR_holds_and (divR_holds_and (divR_holds_and (divR_holds_and (divR_holds_and (divR_holds_and (divR_holds_and (divR_holds_and (divR_holds_and (divR_holds_and (divR_holds_and (divR_holds_and (divR_holds_and (divR_holds_and (divR_holds_and (divR_holds_and (divR_holds_and (divR_holds_and (divR_holds_and (divR_holds_and (divR_holds_and (divR_holds_and divR_holds_c0 divR_holds_c1) divR_holds_c2) divR_holds_c3) divR_holds_c4) divR_holds_c5) divR_holds_c6) divR_holds_c7) divR_holds_c8) divR_holds_c9) divR_holds_c10) divR_holds_c11) divR_holds_c12) divR_holds_c13) divR_holds_c14) divR_holds_c15) divR_holds_c16) divR_holds_c17) divR_holds_c18) divR_holds_c19) divR_holds_c20) divR_holds_c21) divR_holds_c22) divR_holds_c23) divR_holds_c24) divR_holds_c25) divR_holds_c26) divR_holds_c27) divR_holds_c28) divR_holds_c29) divR_holds_c30) divR_holds_c31)
theorem divR_holds_named : Try.pinned.checked.prog.funcNamed Rows.fnExactDivRatRow.func = some 6 := by kernel_rfl
theorem divR_holds_inst : Try.f6.isInstance Try.pinned.checked.prog Rows.fnExactDivRatRow.origin Rows.fnExactDivRatRow.targs := of_decide_eq_true (by kernel_rfl)
theorem divR_holds_wrap : Try.f6.isWrapper Try.pinned.checked.prog Rows.fnExactDivRatRow.wrapper Rows.fnExactDivRatRow.mainSum := by unfold Func.isWrapper; first | (rw [if_pos (by decide +kernel)]; kernel_rfl) | (rw [if_neg (by decide +kernel)]; exact ⟨rfl, rfl⟩)
theorem divR_holds : Rows.FnExactDivRatSaid :=
  OpenClaim.holds_of_wide 6 Try.f6 rfl rfl rfl rfl rfl rfl rfl ⟨rfl, rfl, rfl, rfl, rfl⟩ rfl rfl rfl rfl rfl divR_holds_named Try.func6 divR_holds_closed divR_holds_inst divR_holds_wrap
    (fun os started H enc _ => divR_holds_lifted os started H enc)
#print axioms divR_holds
end Go.Proofs.Ytlmeokeanihhoaa

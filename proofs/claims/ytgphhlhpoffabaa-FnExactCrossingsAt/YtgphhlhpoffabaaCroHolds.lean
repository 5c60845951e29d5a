/- The law FnExactCrossingsAt returns true for every argument and leaves it as it was: the given statement FnExactCrossingsAtSaid. No condition. -/
import Derived.Test.YtgphhlhpoffabaaCroLaw
import Derived.Test.YtgphhlhpoffabaaIo
import Derived.Test.YtgphhlhpoffabaaOpenPt
namespace Go.Proofs.Ytgphhlhpoffabaa
open Go.ChangeShapes Go.WideShapes Go.ChangeAt Go.RowKit Go.Joins
set_option linter.unusedVariables false
set_option maxRecDepth 100000
set_option linter.unusedSimpArgs false

set_option maxRecDepth 100000 in
theorem cro_holds_lifted (os : Os) (started : os.Started) (H : Type) (enc : TypeId × Value → H) :
    ReturnsInHanded {} Try.checked os 7 .any (Rows.fnExactCrossingsAtSpec.pre6 enc Try.prog Try.f7 Rows.fnExactCrossingsAtRow.domain false) (Rows.fnExactCrossingsAtSpec.post enc Try.prog Try.f7 false true false false) := by
  refine returnsInHanded_of_change (C := Try.checked) own started (by kernel_rfl) Try.func7
    (ChangeSpec.witness6 (enc := enc) (C := Try.checked) false ⟨#[], #[.slice none 0 0, .agg #[.int .i64 0, .int .i64 0]], []⟩ 8 (by kernel_rfl) (by kernel_rfl) (by kernel_rfl) (by kernel_rfl)) ?_
  intro W base args ds gs before hval0 hW hcnd _
  have hval : ∀ (j : Nat) t v, Try.f7.params[j]? = some t → args[j]? = some v → Value.okWide Try.prog W .any base t v := hval0
  have hW' := hW
  obtain ⟨p, q, hA0, hV, rfl, hfz, hnd⟩ := hW
  have hA : DataW.TrodAll enc Try.prog W 0 (fun _ => true) true Try.f7.params.toList args.toList ds p := hA0
  rw [Try.params7] at hA hval
  obtain ⟨v0, vs0, d0, ds0, p0, q0, hargs, rfl, rfl, h0, r0⟩ := trodAll_cons hA
  obtain ⟨v1, vs1, d1, ds1, p1, q1, rfl, rfl, rfl, h1, r1⟩ := trodAll_cons r0
  obtain ⟨rfl, rfl, rfl⟩ := trodAll_nil r1
  obtain rfl : args = #[v0, v1] := by cases args; simp_all
  obtain ⟨rfl, rfl⟩ := trodVars_none hV
  have lt0 : ∀ x ∈ p0, x.block < W.heap.size := by obtain ⟨m, hm⟩ := h0; exact DataW.trod_lt m _ _ _ hm
  obtain ⟨a0, n0, c0, l0, rfl, sl0, hn0, hm0⟩ := open_TS (hval 0 48 v0 rfl rfl) h0
  have lt1 : ∀ x ∈ p1, x.block < W.heap.size := by obtain ⟨m, hm⟩ := h1; exact DataW.trod_lt m _ _ _ hm
  obtain ⟨t1, rfl⟩ := open_T (hval 1 49 v1 rfl rfl) h1
  clear hA0 hval0
  refine (lawCrossingsAt_walk a0 n0 c0 l0 t1 W sl0 hn0 hm0).mono fun e W' ⟨he, bel⟩ => ?_
  subst he
  exact ⟨_, rfl, _, _, _, [], _, [], hW', trodAll_mk1 (shut_bool Try.underlying4 _), (trodAll_cons_mk (Below.trod laidOut (by kernel_rfl) (of_decide_eq_true (by kernel_rfl)) h0 bel lt0) (trodAll_cons_mk (Below.trod laidOut (by kernel_rfl) (of_decide_eq_true (by kernel_rfl)) h1 bel lt1) trodAll_mk0)), rfl, bel.frame _, fun h => by cases h⟩

theorem cro_holds_c0 : (Rows.fnExactCrossingsAtRow.wf (OpenSpec.ofChange Rows.fnExactCrossingsAtSpec)) = true := by kernel_rfl
theorem cro_holds_c1 : (laidOutB Try.pinned.checked.prog) = true := by kernel_rfl
theorem cro_holds_c2 : (mapsRowed Try.pinned.checked.prog) = true := by kernel_rfl
theorem cro_holds_c3 : (Try.f7.params.all (Try.pinned.checked.prog.readableRec ·)) = true := by kernel_rfl
theorem cro_holds_c4 : (namedTie Try.pinned.checked.prog Rows.fnExactCrossingsAtRow.named Rows.fnExactCrossingsAtSpec.vars) = true := by kernel_rfl
theorem cro_holds_c5 : (Rows.fnExactCrossingsAtRow.stops == []) = true := by kernel_rfl
theorem cro_holds_c6 : (Try.pinned.checked.prog.stops == []) = true := by kernel_rfl
theorem cro_holds_c7 : (Rows.fnExactCrossingsAtRow.knobs == []) = true := by kernel_rfl
theorem cro_holds_c8 : (Try.pinned.checked.prog.stopKnobs == []) = true := by kernel_rfl
theorem cro_holds_c9 : (Rows.fnExactCrossingsAtRow.inPlace == Try.pinned.checked.prog.inPlace 7) = true := by kernel_rfl
theorem cro_holds_c10 : (Rows.fnExactCrossingsAtRow.unfollowed == Try.pinned.checked.prog.unfollowed 7) = true := by kernel_rfl
theorem cro_holds_c11 : (Rows.fnExactCrossingsAtRow.recurses == Try.pinned.checked.prog.recurses 7) = true := by kernel_rfl
theorem cro_holds_c12 : (Rows.fnExactCrossingsAtRow.named == Try.pinned.checked.prog.varsNamed 7) = true := by kernel_rfl
theorem cro_holds_c13 : (Rows.fnExactCrossingsAtRow.maps == (Try.f7.params.toList ++ Rows.fnExactCrossingsAtSpec.plain.varTypes Try.pinned.checked.prog).any (Try.pinned.checked.prog.mapsRec ·)) = true := by kernel_rfl
theorem cro_holds_c14 : (Rows.fnExactCrossingsAtRow.ifaces == (Try.f7.params.toList ++ Rows.fnExactCrossingsAtSpec.plain.varTypes Try.pinned.checked.prog).any (Try.pinned.checked.prog.ifacesRec ·)) = true := by kernel_rfl
theorem cro_holds_c15 : (Rows.fnExactCrossingsAtRow.mapsOut == Try.pinned.checked.prog.mapsAmong Try.f7.resultTypes.toList) = true := by kernel_rfl
theorem cro_holds_c16 : (Rows.fnExactCrossingsAtRow.loops == (Try.f7.params.toList ++ Rows.fnExactCrossingsAtSpec.plain.varTypes Try.pinned.checked.prog).any (Try.pinned.checked.prog.loopsFrom ·)) = true := by kernel_rfl
theorem cro_holds_c17 : (Rows.fnExactCrossingsAtRow.wideKeys == (Try.f7.params.toList ++ Rows.fnExactCrossingsAtSpec.plain.varTypes Try.pinned.checked.prog ++ Try.f7.resultTypes.toList).any (Try.pinned.checked.prog.wideKeysFrom ·)) = true := by kernel_rfl
theorem cro_holds_c18 : (Rows.fnExactCrossingsAtSpec.vars.all (Try.pinned.checked.prog.varReadable ·)) = true := by kernel_rfl
theorem cro_holds_c19 : (Try.f7.resultTypes.all (fun t => Try.pinned.checked.prog.readableRec t && decide (t < Try.pinned.checked.prog.types.size))) = true := by kernel_rfl
theorem cro_holds_c20 : (Rows.fnExactCrossingsAtRow.ifacesOut == Try.f7.resultTypes.toList.any (Try.pinned.checked.prog.ifacesRec ·)) = true := by kernel_rfl
theorem cro_holds_c21 : (Rows.fnExactCrossingsAtRow.loopsOut == Try.f7.resultTypes.toList.any (Try.pinned.checked.prog.loopsFrom ·)) = true := by kernel_rfl
theorem cro_holds_c22 : (Rows.fnExactCrossingsAtRow.plainKeys == Try.pinned.checked.prog.plainKeys) = true := by kernel_rfl
theorem cro_holds_c23 : (Rows.fnExactCrossingsAtRow.shortTexts.isNone) = true := by kernel_rfl
theorem cro_holds_c24 : (Try.pinned.checked.prog.stopsHeard) = true := by kernel_rfl
theorem cro_holds_c25 : (Try.pinned.checked.prog.mayEnter) = true := io_enter
theorem cro_holds_c26 : (Rows.fnExactCrossingsAtRow.lifted == Try.pinned.checked.prog.liftsFinal) = true := by rw [io_lifts]; kernel_rfl
theorem cro_holds_c27 : (Try.pinned.checked.prog.make == some Rows.fnExactCrossingsAtRow.make) = true := by rw [io_make]; kernel_rfl
theorem cro_holds_c28 : (Rows.fnExactCrossingsAtRow.kinds == (if Rows.fnExactCrossingsAtRow.domain.isEmpty then [] else Try.f7.params.toList.map fun t => match Try.pinned.checked.prog.underlying t with | some (.int k) => some k | _ => none)) = true := by kernel_rfl
theorem cro_holds_c29 : (Rows.fnExactCrossingsAtRow.pinned == Rows.fnExactCrossingsAtRow.pinnedBy) = true := by kernel_rfl
theorem cro_holds_c30 : (Rows.fnExactCrossingsAtRow.veiled == (Try.f7.params.toList ++ Rows.fnExactCrossingsAtSpec.plain.varTypes Try.pinned.checked.prog ++ Try.f7.resultTypes.toList).any (Try.pinned.checked.prog.veiledRec ·)) = true := by kernel_rfl
theorem cro_holds_c31 : (Rows.fnExactCrossingsAtRow.veiledFits Try.pinned.checked.prog Try.f7.params.toList (Try.f7.params.toList ++ Rows.fnExactCrossingsAtSpec.plain.varTypes Try.pinned.checked.prog ++ Try.f7.resultTypes.toList)) = true := by kernel_rfl
theorem cro_holds_and {a b : Bool} (h : a = true) (k : b = true) : (a && b) = true := by rw [h, k]; rfl
theorem cro_holds_closed : joinedFacts Try.pinned.checked.prog 7 Try.f7 Rows.fnExactCrossingsAtSpec Rows.fnExactCrossingsAtRow = true := (cro_holds_and (cro_holds_and (cro_holds_and (cro_holds_and (cro_holds_and (cro_holds_and (cro_holds_and (cro_holds_and (cro_holds_and (cro_holds_and (cro_holds_and (cro_holds_and (cro_holds_and (cro_holds_and (cro_holds_and (cro_holds_and (cro_holds_and (cro_holds_and (cro_holds_and (cro_holds_and (cro_holds_and (cro_holds_and (cro_holds_and (cro_holds_and (cro_holds_and (cro_holds_and (cro_holds_and (cro_holds_and (cro_holds_and (cro_holds_and (cro_holds_and cro_holds_c0 cro_holds_c1) cro_holds_c2) cro_holds_c3) cro_holds_c4) cro_holds_c5) cro_holds_c6) cro_holds_c7) cro_holds_c8) cro_holds_c9) cro_holds_c10) cro_holds_c11) cro_holds_c12) cro_holds_c13) cro_holds_c14) cro_holds_c15) cro_holds_c16) cro_holds_c17) cro_holds_c18) cro_holds_c19) cro_holds_c20) cro_holds_c21) cro_holds_c22) cro_holds_c23) cro_holds_c24) cro_holds_c25) cro_holds_c26) cro_holds_c27) cro_holds_c28) cro_holds_c29) cro_holds_c30) cro_holds_c31)
theorem cro_holds_named : Try.pinned.checked.prog.funcNamed Rows.fnExactCrossingsAtRow.func = some 7 := by kernel_rfl
theorem cro_holds_inst : Try.f7.isInstance Try.pinned.checked.prog Rows.fnExactCrossingsAtRow.origin Rows.fnExactCrossingsAtRow.targs := of_decide_eq_true (by kernel_rfl)
theorem cro_holds_wrap : Try.f7.isWrapper Try.pinned.checked.prog Rows.fnExactCrossingsAtRow.wrapper Rows.fnExactCrossingsAtRow.mainSum := by unfold Func.isWrapper; first | (rw [if_pos (by decide +kernel)]; kernel_rfl) | (rw [if_neg (by decide +kernel)]; exact ⟨rfl, rfl⟩)
theorem cro_holds : Rows.FnExactCrossingsAtSaid :=
  OpenClaim.holds_of_wide 7 Try.f7 rfl rfl rfl rfl rfl rfl rfl ⟨rfl, rfl, rfl, rfl, rfl⟩ rfl rfl rfl rfl rfl cro_holds_named Try.func7 cro_holds_closed cro_holds_inst cro_holds_wrap
    (fun os started H enc _ => cro_holds_lifted os started H enc)
#print axioms cro_holds
end Go.Proofs.Ytgphhlhpoffabaa

/- The law FnExactWindingAt returns true for every argument and leaves it as it was: the given statement FnExactWindingAtSaid. No condition. -/
import Derived.Test.YtgphhlhpoffabaaWinLaw
import Derived.Test.YtgphhlhpoffabaaIo
import Derived.Test.YtgphhlhpoffabaaOpenPt
namespace Go.Proofs.Ytgphhlhpoffabaa
open Go.ChangeShapes Go.WideShapes Go.ChangeAt Go.RowKit Go.Joins
set_option linter.unusedVariables false
set_option maxRecDepth 100000
set_option linter.unusedSimpArgs false

set_option maxRecDepth 100000 in
theorem win_holds_lifted (os : Os) (started : os.Started) (H : Type) (enc : TypeId × Value → H) :
    ReturnsInHanded {} Try.checked os 6 .any (Rows.fnExactWindingAtSpec.pre6 enc Try.prog Try.f6 Rows.fnExactWindingAtRow.domain false) (Rows.fnExactWindingAtSpec.post enc Try.prog Try.f6 false true false false) := by
  refine returnsInHanded_of_change (C := Try.checked) own started (by kernel_rfl) Try.func6
    (ChangeSpec.witness6 (enc := enc) (C := Try.checked) false ⟨#[], #[.slice none 0 0, .agg #[.int .i64 0, .int .i64 0]], []⟩ 8 (by kernel_rfl) (by kernel_rfl) (by kernel_rfl) (by kernel_rfl)) ?_
  intro W base args ds gs before hval0 hW hcnd _
  have hval : ∀ (j : Nat) t v, Try.f6.params[j]? = some t → args[j]? = some v → Value.okWide Try.prog W .any base t v := hval0
  have hW' := hW
  obtain ⟨p, q, hA0, hV, rfl, hfz, hnd⟩ := hW
  have hA : DataW.TrodAll enc Try.prog W 0 (fun _ => true) true Try.f6.params.toList args.toList ds p := hA0
  rw [Try.params6] at hA hval
  obtain ⟨v0, vs0, d0, ds0, p0, q0, hargs, rfl, rfl, h0, r0⟩ := trodAll_cons hA
  obtain ⟨v1, vs1, d1, ds1, p1, q1, rfl, rfl, rfl, h1, r1⟩ := trodAll_cons r0
  obtain ⟨rfl, rfl, rfl⟩ := trodAll_nil r1
  obtain rfl : args = #[v0, v1] := by cases args; simp_all
  obtain ⟨rfl, rfl⟩ := trodVars_none hV
  have lt0 : ∀ x ∈ p0, x.block < W.heap.size := by obtain ⟨m, hm⟩ := h0; exact DataW.trod_lt m _ _ _ hm
  obtain ⟨a0, n0, c0, l0, rfl, sl0, hn0, hm0⟩ := open_TS (hval 0 48 v0 rfl rfl) h0
  have lt1 : ∀ x ∈ p1, x.block < W.heap.size := by obtain ⟨m, hm⟩ := h1; exact DataW.trod_lt m _ _ _ hm
  obtain ⟨t1, rfl⟩ := open_T (hval 1 49 v1 rfl rfl) h1
  clear hA0 hval0
  refine (lawWindingAt_walk a0 n0 c0 l0 t1 W sl0 hn0 hm0).mono fun e W' ⟨he, bel⟩ => ?_
  subst he
  exact ⟨_, rfl, _, _, _, [], _, [], hW', trodAll_mk1 (shut_bool Try.underlying4 _), (trodAll_cons_mk (Below.trod laidOut (by kernel_rfl) (of_decide_eq_true (by kernel_rfl)) h0 bel lt0) (trodAll_cons_mk (Below.trod laidOut (by kernel_rfl) (of_decide_eq_true (by kernel_rfl)) h1 bel lt1) trodAll_mk0)), rfl, bel.frame _, fun h => by cases h⟩

theorem win_holds_c0 : (Rows.fnExactWindingAtRow.wf (OpenSpec.ofChange Rows.fnExactWindingAtSpec)) = true := by kernel_rfl
theorem win_holds_c1 : (laidOutB Try.pinned.checked.prog) = true := by kernel_rfl
theorem win_holds_c2 : (mapsRowed Try.pinned.checked.prog) = true := by kernel_rfl
theorem win_holds_c3 : (Try.f6.params.all (Try.pinned.checked.prog.readableRec ·)) = true := by kernel_rfl
theorem win_holds_c4 : (namedTie Try.pinned.checked.prog Rows.fnExactWindingAtRow.named Rows.fnExactWindingAtSpec.vars) = true := by kernel_rfl
theorem win_holds_c5 : (Rows.fnExactWindingAtRow.stops == []) = true := by kernel_rfl
theorem win_holds_c6 : (Try.pinned.checked.prog.stops == []) = true := by kernel_rfl
theorem win_holds_c7 : (Rows.fnExactWindingAtRow.knobs == []) = true := by kernel_rfl
theorem win_holds_c8 : (Try.pinned.checked.prog.stopKnobs == []) = true := by kernel_rfl
theorem win_holds_c9 : (Rows.fnExactWindingAtRow.inPlace == Try.pinned.checked.prog.inPlace 6) = true := by kernel_rfl
theorem win_holds_c10 : (Rows.fnExactWindingAtRow.unfollowed == Try.pinned.checked.prog.unfollowed 6) = true := by kernel_rfl
theorem win_holds_c11 : (Rows.fnExactWindingAtRow.recurses == Try.pinned.checked.prog.recurses 6) = true := by kernel_rfl
theorem win_holds_c12 : (Rows.fnExactWindingAtRow.named == Try.pinned.checked.prog.varsNamed 6) = true := by kernel_rfl
theorem win_holds_c13 : (Rows.fnExactWindingAtRow.maps == (Try.f6.params.toList ++ Rows.fnExactWindingAtSpec.plain.varTypes Try.pinned.checked.prog).any (Try.pinned.checked.prog.mapsRec ·)) = true := by kernel_rfl
theorem win_holds_c14 : (Rows.fnExactWindingAtRow.ifaces == (Try.f6.params.toList ++ Rows.fnExactWindingAtSpec.plain.varTypes Try.pinned.checked.prog).any (Try.pinned.checked.prog.ifacesRec ·)) = true := by kernel_rfl
theorem win_holds_c15 : (Rows.fnExactWindingAtRow.mapsOut == Try.pinned.checked.prog.mapsAmong Try.f6.resultTypes.toList) = true := by kernel_rfl
theorem win_holds_c16 : (Rows.fnExactWindingAtRow.loops == (Try.f6.params.toList ++ Rows.fnExactWindingAtSpec.plain.varTypes Try.pinned.checked.prog).any (Try.pinned.checked.prog.loopsFrom ·)) = true := by kernel_rfl
theorem win_holds_c17 : (Rows.fnExactWindingAtRow.wideKeys == (Try.f6.params.toList ++ Rows.fnExactWindingAtSpec.plain.varTypes Try.pinned.checked.prog ++ Try.f6.resultTypes.toList).any (Try.pinned.checked.prog.wideKeysFrom ·)) = true := by kernel_rfl
theorem win_holds_c18 : (Rows.fnExactWindingAtSpec.vars.all (Try.pinned.checked.prog.varReadable ·)) = true := by kernel_rfl
theorem win_holds_c19 : (Try.f6.resultTypes.all (fun t => Try.pinned.checked.prog.readableRec t && decide (t < Try.pinned.checked.prog.types.size))) = true := by kernel_rfl
theorem win_holds_c20 : (Rows.fnExactWindingAtRow.ifacesOut == Try.f6.resultTypes.toList.any (Try.pinned.checked.prog.ifacesRec ·)) = true := by kernel_rfl
theorem win_holds_c21 : (Rows.fnExactWindingAtRow.loopsOut == Try.f6.resultTypes.toList.any (Try.pinned.checked.prog.loopsFrom ·)) = true := by kernel_rfl
theorem win_holds_c22 : (Rows.fnExactWindingAtRow.plainKeys == Try.pinned.checked.prog.plainKeys) = true := by kernel_rfl
theorem win_holds_c23 : (Rows.fnExactWindingAtRow.shortTexts.isNone) = true := by kernel_rfl
theorem win_holds_c24 : (Try.pinned.checked.prog.stopsHeard) = true := by kernel_rfl
theorem win_holds_c25 : (Try.pinned.checked.prog.mayEnter) = true := io_enter
theorem win_holds_c26 : (Rows.fnExactWindingAtRow.lifted == Try.pinned.checked.prog.liftsFinal) = true := by rw [io_lifts]; kernel_rfl
theorem win_holds_c27 : (Try.pinned.checked.prog.make == some Rows.fnExactWindingAtRow.make) = true := by rw [io_make]; kernel_rfl
theorem win_holds_c28 : (Rows.fnExactWindingAtRow.kinds == (if Rows.fnExactWindingAtRow.domain.isEmpty then [] else Try.f6.params.toList.map fun t => match Try.pinned.checked.prog.underlying t with | some (.int k) => some k | _ => none)) = true := by kernel_rfl
theorem win_holds_c29 : (Rows.fnExactWindingAtRow.pinned == Rows.fnExactWindingAtRow.pinnedBy) = true := by kernel_rfl
theorem win_holds_c30 : (Rows.fnExactWindingAtRow.veiled == (Try.f6.params.toList ++ Rows.fnExactWindingAtSpec.plain.varTypes Try.pinned.checked.prog ++ Try.f6.resultTypes.toList).any (Try.pinned.checked.prog.veiledRec ·)) = true := by kernel_rfl
theorem win_holds_c31 : (Rows.fnExactWindingAtRow.veiledFits Try.pinned.checked.prog Try.f6.params.toList (Try.f6.params.toList ++ Rows.fnExactWindingAtSpec.plain.varTypes Try.pinned.checked.prog ++ Try.f6.resultTypes.toList)) = true := by kernel_rfl
theorem win_holds_and {a b : Bool} (h : a = true) (k : b = true) : (a && b) = true := by rw [h, k]; rfl
theorem win_holds_closed : joinedFacts Try.pinned.checked.prog 6 Try.f6 Rows.fnExactWindingAtSpec Rows.fnExactWindingAtRow = true := (win_holds_and (win_holds_and (win_holds_and (win_holds_and (win_holds_and (win_holds_and (win_holds_and (win_holds_and (win_holds_and (win_holds_and (win_holds_and (win_holds_and (win_holds_and (win_holds_and (win_holds_and (win_holds_and (win_holds_and (win_holds_and (win_holds_and (win_holds_and (win_holds_and (win_holds_and (win_holds_and (win_holds_and (win_holds_and (win_holds_and (win_holds_and (win_holds_and (win_holds_and (win_holds_and (win_holds_and win_holds_c0 win_holds_c1) win_holds_c2) win_holds_c3) win_holds_c4) win_holds_c5) win_holds_c6) win_holds_c7) win_holds_c8) win_holds_c9) win_holds_c10) win_holds_c11) win_holds_c12) win_holds_c13) win_holds_c14) win_holds_c15) win_holds_c16) win_holds_c17) win_holds_c18) win_holds_c19) win_holds_c20) win_holds_c21) win_holds_c22) win_holds_c23) win_holds_c24) win_holds_c25) win_holds_c26) win_holds_c27) win_holds_c28) win_holds_c29) win_holds_c30) win_holds_c31)
theorem win_holds_named : Try.pinned.checked.prog.funcNamed Rows.fnExactWindingAtRow.func = some 6 := by kernel_rfl
theorem win_holds_inst : Try.f6.isInstance Try.pinned.checked.prog Rows.fnExactWindingAtRow.origin Rows.fnExactWindingAtRow.targs := of_decide_eq_true (by kernel_rfl)
theorem win_holds_wrap : Try.f6.isWrapper Try.pinned.checked.prog Rows.fnExactWindingAtRow.wrapper Rows.fnExactWindingAtRow.mainSum := by unfold Func.isWrapper; first | (rw [if_pos (by decide +kernel)]; kernel_rfl) | (rw [if_neg (by decide +kernel)]; exact ⟨rfl, rfl⟩)
theorem win_holds : Rows.FnExactWindingAtSaid :=
  OpenClaim.holds_of_wide 6 Try.f6 rfl rfl rfl rfl rfl rfl rfl ⟨rfl, rfl, rfl, rfl, rfl⟩ rfl rfl rfl rfl rfl win_holds_named Try.func6 win_holds_closed win_holds_inst win_holds_wrap
    (fun os started H enc _ => win_holds_lifted os started H enc)
#print axioms win_holds
end Go.Proofs.Ytgphhlhpoffabaa

/- The law FnExactOrient returns true for every argument and leaves it as it was: the given statement FnExactOrientSaid. No condition. -/
import Derived.Test.YtpchoiaombigjaaOriLaw
import Derived.Test.YtpchoiaombigjaaIo
import Derived.Test.YtpchoiaombigjaaOpenPt
namespace Go.Proofs.Ytpchoiaombigjaa
open Go.ChangeShapes Go.WideShapes Go.ChangeAt Go.RowKit Go.Joins
set_option linter.unusedVariables false
set_option maxRecDepth 100000
set_option linter.unusedSimpArgs false

set_option maxRecDepth 100000 in
theorem ori_holds_lifted (os : Os) (started : os.Started) (H : Type) (enc : TypeId × Value → H) :
    ReturnsInHanded {} Try.checked os 6 .any (Rows.fnExactOrientSpec.pre6 enc Try.prog Try.f6 Rows.fnExactOrientRow.domain false) (Rows.fnExactOrientSpec.post enc Try.prog Try.f6 false true false false) := by
  refine returnsInHanded_of_change (C := Try.checked) own started (by kernel_rfl) Try.func6
    (ChangeSpec.witness6 (enc := enc) (C := Try.checked) false ⟨#[], #[.agg #[.int .i64 0, .int .i64 0], .agg #[.int .i64 0, .int .i64 0], .agg #[.int .i64 0, .int .i64 0]], []⟩ 8 (by kernel_rfl) (by kernel_rfl) (by kernel_rfl) (by kernel_rfl)) ?_
  intro W base args ds gs before hval0 hW hcnd _
  have hval : ∀ (j : Nat) t v, Try.f6.params[j]? = some t → args[j]? = some v → Value.okWide Try.prog W .any base t v := hval0
  have hW' := hW
  obtain ⟨p, q, hA0, hV, rfl, hfz, hnd⟩ := hW
  have hA : DataW.TrodAll enc Try.prog W 0 (fun _ => true) true Try.f6.params.toList args.toList ds p := hA0
  rw [Try.params6] at hA hval
  obtain ⟨v0, vs0, d0, ds0, p0, q0, hargs, rfl, rfl, h0, r0⟩ := trodAll_cons hA
  obtain ⟨v1, vs1, d1, ds1, p1, q1, rfl, rfl, rfl, h1, r1⟩ := trodAll_cons r0
  obtain ⟨v2, vs2, d2, ds2, p2, q2, rfl, rfl, rfl, h2, r2⟩ := trodAll_cons r1
  obtain ⟨rfl, rfl, rfl⟩ := trodAll_nil r2
  obtain rfl : args = #[v0, v1, v2] := by cases args; simp_all
  obtain ⟨rfl, rfl⟩ := trodVars_none hV
  have lt0 : ∀ x ∈ p0, x.block < W.heap.size := by obtain ⟨m, hm⟩ := h0; exact DataW.trod_lt m _ _ _ hm
  obtain ⟨t0, rfl⟩ := open_T (hval 0 52 v0 rfl rfl) h0
  have lt1 : ∀ x ∈ p1, x.block < W.heap.size := by obtain ⟨m, hm⟩ := h1; exact DataW.trod_lt m _ _ _ hm
  obtain ⟨t1, rfl⟩ := open_T (hval 1 52 v1 rfl rfl) h1
  have lt2 : ∀ x ∈ p2, x.block < W.heap.size := by obtain ⟨m, hm⟩ := h2; exact DataW.trod_lt m _ _ _ hm
  obtain ⟨t2, rfl⟩ := open_T (hval 2 52 v2 rfl rfl) h2
  clear hA0 hval0
  refine (lawOrient_walk t0 t1 t2 W).mono fun e W' ⟨he, bel⟩ => ?_
  subst he
  exact ⟨_, rfl, _, _, _, [], _, [], hW', trodAll_mk1 (shut_bool Try.underlying4 _), (trodAll_cons_mk (Below.trod laidOut (by kernel_rfl) (of_decide_eq_true (by kernel_rfl)) h0 bel lt0) (trodAll_cons_mk (Below.trod laidOut (by kernel_rfl) (of_decide_eq_true (by kernel_rfl)) h1 bel lt1) (trodAll_cons_mk (Below.trod laidOut (by kernel_rfl) (of_decide_eq_true (by kernel_rfl)) h2 bel lt2) trodAll_mk0))), rfl, bel.frame _, fun h => by cases h⟩

theorem ori_holds_c0 : (Rows.fnExactOrientRow.wf (OpenSpec.ofChange Rows.fnExactOrientSpec)) = true := by kernel_rfl
theorem ori_holds_c1 : (laidOutB Try.pinned.checked.prog) = true := by kernel_rfl
theorem ori_holds_c2 : (mapsRowed Try.pinned.checked.prog) = true := by kernel_rfl
theorem ori_holds_c3 : (Try.f6.params.all (Try.pinned.checked.prog.readableRec ·)) = true := by kernel_rfl
theorem ori_holds_c4 : (namedTie Try.pinned.checked.prog Rows.fnExactOrientRow.named Rows.fnExactOrientSpec.vars) = true := by kernel_rfl
theorem ori_holds_c5 : (Rows.fnExactOrientRow.stops == []) = true := by kernel_rfl
theorem ori_holds_c6 : (Try.pinned.checked.prog.stops == []) = true := by kernel_rfl
theorem ori_holds_c7 : (Rows.fnExactOrientRow.knobs == []) = true := by kernel_rfl
theorem ori_holds_c8 : (Try.pinned.checked.prog.stopKnobs == []) = true := by kernel_rfl
theorem ori_holds_c9 : (Rows.fnExactOrientRow.inPlace == Try.pinned.checked.prog.inPlace 6) = true := by kernel_rfl
theorem ori_holds_c10 : (Rows.fnExactOrientRow.unfollowed == Try.pinned.checked.prog.unfollowed 6) = true := by kernel_rfl
theorem ori_holds_c11 : (Rows.fnExactOrientRow.recurses == Try.pinned.checked.prog.recurses 6) = true := by kernel_rfl
theorem ori_holds_c12 : (Rows.fnExactOrientRow.named == Try.pinned.checked.prog.varsNamed 6) = true := by kernel_rfl
theorem ori_holds_c13 : (Rows.fnExactOrientRow.maps == (Try.f6.params.toList ++ Rows.fnExactOrientSpec.plain.varTypes Try.pinned.checked.prog).any (Try.pinned.checked.prog.mapsRec ·)) = true := by kernel_rfl
theorem ori_holds_c14 : (Rows.fnExactOrientRow.ifaces == (Try.f6.params.toList ++ Rows.fnExactOrientSpec.plain.varTypes Try.pinned.checked.prog).any (Try.pinned.checked.prog.ifacesRec ·)) = true := by kernel_rfl
theorem ori_holds_c15 : (Rows.fnExactOrientRow.mapsOut == Try.pinned.checked.prog.mapsAmong Try.f6.resultTypes.toList) = true := by kernel_rfl
theorem ori_holds_c16 : (Rows.fnExactOrientRow.loops == (Try.f6.params.toList ++ Rows.fnExactOrientSpec.plain.varTypes Try.pinned.checked.prog).any (Try.pinned.checked.prog.loopsFrom ·)) = true := by kernel_rfl
theorem ori_holds_c17 : (Rows.fnExactOrientRow.wideKeys == (Try.f6.params.toList ++ Rows.fnExactOrientSpec.plain.varTypes Try.pinned.checked.prog ++ Try.f6.resultTypes.toList).any (Try.pinned.checked.prog.wideKeysFrom ·)) = true := by kernel_rfl
theorem ori_holds_c18 : (Rows.fnExactOrientSpec.vars.all (Try.pinned.checked.prog.varReadable ·)) = true := by kernel_rfl
theorem ori_holds_c19 : (Try.f6.resultTypes.all (fun t => Try.pinned.checked.prog.readableRec t && decide (t < Try.pinned.checked.prog.types.size))) = true := by kernel_rfl
theorem ori_holds_c20 : (Rows.fnExactOrientRow.ifacesOut == Try.f6.resultTypes.toList.any (Try.pinned.checked.prog.ifacesRec ·)) = true := by kernel_rfl
theorem ori_holds_c21 : (Rows.fnExactOrientRow.loopsOut == Try.f6.resultTypes.toList.any (Try.pinned.checked.prog.loopsFrom ·)) = true := by kernel_rfl
theorem ori_holds_c22 : (Rows.fnExactOrientRow.plainKeys == Try.pinned.checked.prog.plainKeys) = true := by kernel_rfl
theorem ori_holds_c23 : (Rows.fnExactOrientRow.shortTexts.isNone) = true := by kernel_rfl
theorem ori_holds_c24 : (Try.pinned.checked.prog.stopsHeard) = true := by kernel_rfl
theorem ori_holds_c25 : (Try.pinned.checked.prog.mayEnter) = true := io_enter
theorem ori_holds_c26 : (Rows.fnExactOrientRow.lifted == Try.pinned.checked.prog.liftsFinal) = true := by rw [io_lifts]; kernel_rfl
theorem ori_holds_c27 : (Try.pinned.checked.prog.make == some Rows.fnExactOrientRow.make) = true := by rw [io_make]; kernel_rfl
theorem ori_holds_c28 : (Rows.fnExactOrientRow.kinds == (if Rows.fnExactOrientRow.domain.isEmpty then [] else Try.f6.params.toList.map fun t => match Try.pinned.checked.prog.underlying t with | some (.int k) => some k | _ => none)) = true := by kernel_rfl
theorem ori_holds_c29 : (Rows.fnExactOrientRow.pinned == Rows.fnExactOrientRow.pinnedBy) = true := by kernel_rfl
theorem ori_holds_c30 : (Rows.fnExactOrientRow.veiled == (Try.f6.params.toList ++ Rows.fnExactOrientSpec.plain.varTypes Try.pinned.checked.prog ++ Try.f6.resultTypes.toList).any (Try.pinned.checked.prog.veiledRec ·)) = true := by kernel_rfl
theorem ori_holds_c31 : (Rows.fnExactOrientRow.veiledFits Try.pinned.checked.prog Try.f6.params.toList (Try.f6.params.toList ++ Rows.fnExactOrientSpec.plain.varTypes Try.pinned.checked.prog ++ Try.f6.resultTypes.toList)) = true := by kernel_rfl
theorem ori_holds_and {a b : Bool} (h : a = true) (k : b = true) : (a && b) = true := by rw [h, k]; rfl
theorem ori_holds_closed : joinedFacts Try.pinned.checked.prog 6 Try.f6 Rows.fnExactOrientSpec Rows.fnExactOrientRow = true := (ori_holds_and (ori_holds_and (ori_holds_and (ori_holds_and (ori_holds_and (ori_holds_and (ori_holds_and (ori_holds_and (ori_holds_and (ori_holds_and (ori_holds_and (ori_holds_and (ori_holds_and (ori_holds_and (ori_holds_and (ori_holds_and (ori_holds_and (ori_holds_and (ori_holds_and (ori_holds_and (ori_holds_and (ori_holds_and (ori_holds_and (ori_holds_and (ori_holds_and (ori_holds_and (ori_holds_and (ori_holds_and (ori_holds_and (ori_holds_and (ori_holds_and ori_holds_c0 ori_holds_c1) ori_holds_c2) ori_holds_c3) ori_holds_c4) ori_holds_c5) ori_holds_c6) ori_holds_c7) ori_holds_c8) ori_holds_c9) ori_holds_c10) ori_holds_c11) ori_holds_c12) ori_holds_c13) ori_holds_c14) ori_holds_c15) ori_holds_c16) ori_holds_c17) ori_holds_c18) ori_holds_c19) ori_holds_c20) ori_holds_c21) ori_holds_c22) ori_holds_c23) ori_holds_c24) ori_holds_c25) ori_holds_c26) ori_holds_c27) ori_holds_c28) ori_holds_c29) ori_holds_c30) ori_holds_c31)
theorem ori_holds_named : Try.pinned.checked.prog.funcNamed Rows.fnExactOrientRow.func = some 6 := by kernel_rfl
theorem ori_holds_inst : Try.f6.isInstance Try.pinned.checked.prog Rows.fnExactOrientRow.origin Rows.fnExactOrientRow.targs := of_decide_eq_true (by kernel_rfl)
theorem ori_holds_wrap : Try.f6.isWrapper Try.pinned.checked.prog Rows.fnExactOrientRow.wrapper Rows.fnExactOrientRow.mainSum := by unfold Func.isWrapper; first | (rw [if_pos (by decide +kernel)]; kernel_rfl) | (rw [if_neg (by decide +kernel)]; exact ⟨rfl, rfl⟩)
theorem ori_holds : Rows.FnExactOrientSaid :=
  OpenClaim.holds_of_wide 6 Try.f6 rfl rfl rfl rfl rfl rfl rfl ⟨rfl, rfl, rfl, rfl, rfl⟩ rfl rfl rfl rfl rfl ori_holds_named Try.func6 ori_holds_closed ori_holds_inst ori_holds_wrap
    (fun os started H enc _ => ori_holds_lifted os started H enc)
#print axioms ori_holds
end Go.Proofs.Ytpchoiaombigjaa

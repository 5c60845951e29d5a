/- The law FnExactOnWay returns true for every argument and leaves it as it was: the given statement FnExactOnWaySaid. No condition. -/
import Derived.Test.YtgphhlhpoffabaaOnwLaw
import Derived.Test.YtgphhlhpoffabaaIo
import Derived.Test.YtgphhlhpoffabaaOpenPt
namespace Go.Proofs.Ytgphhlhpoffabaa
open Go.ChangeShapes Go.WideShapes Go.ChangeAt Go.RowKit Go.Joins
set_option linter.unusedVariables false
set_option maxRecDepth 100000
set_option linter.unusedSimpArgs false

set_option maxRecDepth 100000 in
theorem onw_holds_lifted (os : Os) (started : os.Started) (H : Type) (enc : TypeId × Value → H) :
    ReturnsInHanded {} Try.checked os 5 .any (Rows.fnExactOnWaySpec.pre6 enc Try.prog Try.f5 Rows.fnExactOnWayRow.domain false) (Rows.fnExactOnWaySpec.post enc Try.prog Try.f5 false true false false) := by
  refine returnsInHanded_of_change (C := Try.checked) own started (by kernel_rfl) Try.func5
    (ChangeSpec.witness6 (enc := enc) (C := Try.checked) false ⟨#[], #[.slice none 0 0, .agg #[.int .i64 0, .int .i64 0]], []⟩ 8 (by kernel_rfl) (by kernel_rfl) (by kernel_rfl) (by kernel_rfl)) ?_
  intro W base args ds gs before hval0 hW hcnd _
  have hval : ∀ (j : Nat) t v, Try.f5.params[j]? = some t → args[j]? = some v → Value.okWide Try.prog W .any base t v := hval0
  have hW' := hW
  obtain ⟨p, q, hA0, hV, rfl, hfz, hnd⟩ := hW
  have hA : DataW.TrodAll enc Try.prog W 0 (fun _ => true) true Try.f5.params.toList args.toList ds p := hA0
  rw [Try.params5] at hA hval
  obtain ⟨v0, vs0, d0, ds0, p0, q0, hargs, rfl, rfl, h0, r0⟩ := trodAll_cons hA
  obtain ⟨v1, vs1, d1, ds1, p1, q1, rfl, rfl, rfl, h1, r1⟩ := trodAll_cons r0
  obtain ⟨rfl, rfl, rfl⟩ := trodAll_nil r1
  obtain rfl : args = #[v0, v1] := by cases args; simp_all
  obtain ⟨rfl, rfl⟩ := trodVars_none hV
  have lt0 : ∀ x ∈ p0, x.block < W.heap.size := by obtain ⟨m, hm⟩ := h0; exact DataW.trod_lt m _ _ _ hm
  obtain ⟨a0, n0, c0, l0, rfl, sl0, hn0, hm0⟩ := open_TS (hval 0 48 v0 rfl rfl) h0
  have lt1 : ∀ x ∈ p1, x.block < W.heap.size := by obtain ⟨m, hm⟩ := h1; exact DataW.trod_lt m _ _ _ hm
  obtain ⟨t1, rfl⟩ := open_T (hval 1 49 v1 rfl rfl) h1
  clear hA0 hval0
  refine (lawOnWay_walk a0 n0 c0 l0 t1 W sl0 hn0 hm0).mono fun e W' ⟨he, bel⟩ => ?_
  subst he
  exact ⟨_, rfl, _, _, _, [], _, [], hW', trodAll_mk1 (shut_bool Try.underlying4 _), (trodAll_cons_mk (Below.trod laidOut (by kernel_rfl) (of_decide_eq_true (by kernel_rfl)) h0 bel lt0) (trodAll_cons_mk (Below.trod laidOut (by kernel_rfl) (of_decide_eq_true (by kernel_rfl)) h1 bel lt1) trodAll_mk0)), rfl, bel.frame _, fun h => by cases h⟩

theorem onw_holds_c0 : (Rows.fnExactOnWayRow.wf (OpenSpec.ofChange Rows.fnExactOnWaySpec)) = true := by kernel_rfl
theorem onw_holds_c1 : (laidOutB Try.pinned.checked.prog) = true := by kernel_rfl
theorem onw_holds_c2 : (mapsRowed Try.pinned.checked.prog) = true := by kernel_rfl
theorem onw_holds_c3 : (Try.f5.params.all (Try.pinned.checked.prog.readableRec ·)) = true := by kernel_rfl
theorem onw_holds_c4 : (namedTie Try.pinned.checked.prog Rows.fnExactOnWayRow.named Rows.fnExactOnWaySpec.vars) = true := by kernel_rfl
theorem onw_holds_c5 : (Rows.fnExactOnWayRow.stops == []) = true := by kernel_rfl
theorem onw_holds_c6 : (Try.pinned.checked.prog.stops == []) = true := by kernel_rfl
theorem onw_holds_c7 : (Rows.fnExactOnWayRow.knobs == []) = true := by kernel_rfl
theorem onw_holds_c8 : (Try.pinned.checked.prog.stopKnobs == []) = true := by kernel_rfl
theorem onw_holds_c9 : (Rows.fnExactOnWayRow.inPlace == Try.pinned.checked.prog.inPlace 5) = true := by kernel_rfl
theorem onw_holds_c10 : (Rows.fnExactOnWayRow.unfollowed == Try.pinned.checked.prog.unfollowed 5) = true := by kernel_rfl
theorem onw_holds_c11 : (Rows.fnExactOnWayRow.recurses == Try.pinned.checked.prog.recurses 5) = true := by kernel_rfl
theorem onw_holds_c12 : (Rows.fnExactOnWayRow.named == Try.pinned.checked.prog.varsNamed 5) = true := by kernel_rfl
theorem onw_holds_c13 : (Rows.fnExactOnWayRow.maps == (Try.f5.params.toList ++ Rows.fnExactOnWaySpec.plain.varTypes Try.pinned.checked.prog).any (Try.pinned.checked.prog.mapsRec ·)) = true := by kernel_rfl
theorem onw_holds_c14 : (Rows.fnExactOnWayRow.ifaces == (Try.f5.params.toList ++ Rows.fnExactOnWaySpec.plain.varTypes Try.pinned.checked.prog).any (Try.pinned.checked.prog.ifacesRec ·)) = true := by kernel_rfl
theorem onw_holds_c15 : (Rows.fnExactOnWayRow.mapsOut == Try.pinned.checked.prog.mapsAmong Try.f5.resultTypes.toList) = true := by kernel_rfl
theorem onw_holds_c16 : (Rows.fnExactOnWayRow.loops == (Try.f5.params.toList ++ Rows.fnExactOnWaySpec.plain.varTypes Try.pinned.checked.prog).any (Try.pinned.checked.prog.loopsFrom ·)) = true := by kernel_rfl
theorem onw_holds_c17 : (Rows.fnExactOnWayRow.wideKeys == (Try.f5.params.toList ++ Rows.fnExactOnWaySpec.plain.varTypes Try.pinned.checked.prog ++ Try.f5.resultTypes.toList).any (Try.pinned.checked.prog.wideKeysFrom ·)) = true := by kernel_rfl
theorem onw_holds_c18 : (Rows.fnExactOnWaySpec.vars.all (Try.pinned.checked.prog.varReadable ·)) = true := by kernel_rfl
theorem onw_holds_c19 : (Try.f5.resultTypes.all (fun t => Try.pinned.checked.prog.readableRec t && decide (t < Try.pinned.checked.prog.types.size))) = true := by kernel_rfl
theorem onw_holds_c20 : (Rows.fnExactOnWayRow.ifacesOut == Try.f5.resultTypes.toList.any (Try.pinned.checked.prog.ifacesRec ·)) = true := by kernel_rfl
theorem onw_holds_c21 : (Rows.fnExactOnWayRow.loopsOut == Try.f5.resultTypes.toList.any (Try.pinned.checked.prog.loopsFrom ·)) = true := by kernel_rfl
theorem onw_holds_c22 : (Rows.fnExactOnWayRow.plainKeys == Try.pinned.checked.prog.plainKeys) = true := by kernel_rfl
theorem onw_holds_c23 : (Rows.fnExactOnWayRow.shortTexts.isNone) = true := by kernel_rfl
theorem onw_holds_c24 : (Try.pinned.checked.prog.stopsHeard) = true := by kernel_rfl
theorem onw_holds_c25 : (Try.pinned.checked.prog.mayEnter) = true := io_enter
theorem onw_holds_c26 : (Rows.fnExactOnWayRow.lifted == Try.pinned.checked.prog.liftsFinal) = true := by rw [io_lifts]; kernel_rfl
theorem onw_holds_c27 : (Try.pinned.checked.prog.make == some Rows.fnExactOnWayRow.make) = true := by rw [io_make]; kernel_rfl
theorem onw_holds_c28 : (Rows.fnExactOnWayRow.kinds == (if Rows.fnExactOnWayRow.domain.isEmpty then [] else Try.f5.params.toList.map fun t => match Try.pinned.checked.prog.underlying t with | some (.int k) => some k | _ => none)) = true := by kernel_rfl
theorem onw_holds_c29 : (Rows.fnExactOnWayRow.pinned == Rows.fnExactOnWayRow.pinnedBy) = true := by kernel_rfl
theorem onw_holds_c30 : (Rows.fnExactOnWayRow.veiled == (Try.f5.params.toList ++ Rows.fnExactOnWaySpec.plain.varTypes Try.pinned.checked.prog ++ Try.f5.resultTypes.toList).any (Try.pinned.checked.prog.veiledRec ·)) = true := by kernel_rfl
theorem onw_holds_c31 : (Rows.fnExactOnWayRow.veiledFits Try.pinned.checked.prog Try.f5.params.toList (Try.f5.params.toList ++ Rows.fnExactOnWaySpec.plain.varTypes Try.pinned.checked.prog ++ Try.f5.resultTypes.toList)) = true := by kernel_rfl
theorem onw_holds_and {a b : Bool} (h : a = true) (k : b = true) : (a && b) = true := by rw [h, k]; rfl
theorem onw_holds_closed : joinedFacts Try.pinned.checked.prog 5 Try.f5 Rows.fnExactOnWaySpec Rows.fnExactOnWayRow = true := (onw_holds_and (onw_holds_and (onw_holds_and (onw_holds_and (onw_holds_and (onw_holds_and (onw_holds_and (onw_holds_and (onw_holds_and (onw_holds_and (onw_holds_and (onw_holds_and (onw_holds_and (onw_holds_and (onw_holds_and (onw_holds_and (onw_holds_and (onw_holds_and (onw_holds_and (onw_holds_and (onw_holds_and (onw_holds_and (onw_holds_and (onw_holds_and (onw_holds_and (onw_holds_and (onw_holds_and (onw_holds_and (onw_holds_and (onw_holds_and (onw_holds_and onw_holds_c0 onw_holds_c1) onw_holds_c2) onw_holds_c3) onw_holds_c4) onw_holds_c5) onw_holds_c6) onw_holds_c7) onw_holds_c8) onw_holds_c9) onw_holds_c10) onw_holds_c11) onw_holds_c12) onw_holds_c13) onw_holds_c14) onw_holds_c15) onw_holds_c16) onw_holds_c17) onw_holds_c18) onw_holds_c19) onw_holds_c20) onw_holds_c21) onw_holds_c22) onw_holds_c23) onw_holds_c24) onw_holds_c25) onw_holds_c26) onw_holds_c27) onw_holds_c28) onw_holds_c29) onw_holds_c30) onw_holds_c31)
theorem onw_holds_named : Try.pinned.checked.prog.funcNamed Rows.fnExactOnWayRow.func = some 5 := by kernel_rfl
theorem onw_holds_inst : Try.f5.isInstance Try.pinned.checked.prog Rows.fnExactOnWayRow.origin Rows.fnExactOnWayRow.targs := of_decide_eq_true (by kernel_rfl)
theorem onw_holds_wrap : Try.f5.isWrapper Try.pinned.checked.prog Rows.fnExactOnWayRow.wrapper Rows.fnExactOnWayRow.mainSum := by unfold Func.isWrapper; first | (rw [if_pos (by decide +kernel)]; kernel_rfl) | (rw [if_neg (by decide +kernel)]; exact ⟨rfl, rfl⟩)
theorem onw_holds : Rows.FnExactOnWaySaid :=
  OpenClaim.holds_of_wide 5 Try.f5 rfl rfl rfl rfl rfl rfl rfl ⟨rfl, rfl, rfl, rfl, rfl⟩ rfl rfl rfl rfl rfl onw_holds_named Try.func5 onw_holds_closed onw_holds_inst onw_holds_wrap
    (fun os started H enc _ => onw_holds_lifted os started H enc)
#print axioms onw_holds
end Go.Proofs.Ytgphhlhpoffabaa

/- The law FnExactSplitWay returns true for every argument and leaves it as it was: the given statement FnExactSplitWaySaid. No condition. -/
import Derived.Test.YtgphhlhpoffabaaSplLaw
import Derived.Test.YtgphhlhpoffabaaIo
import Derived.Test.YtgphhlhpoffabaaOpenPt
import Derived.Test.YtgphhlhpoffabaaOpenI
namespace Go.Proofs.Ytgphhlhpoffabaa
open Go.ChangeShapes Go.WideShapes Go.ChangeAt Go.RowKit Go.Joins
set_option linter.unusedVariables false
set_option maxRecDepth 100000
set_option linter.unusedSimpArgs false

set_option maxRecDepth 100000 in
theorem spl_holds_lifted (os : Os) (started : os.Started) (H : Type) (enc : TypeId × Value → H) :
    ReturnsInHanded {} Try.checked os 11 .any (Rows.fnExactSplitWaySpec.pre6 enc Try.prog Try.f11 Rows.fnExactSplitWayRow.domain false) (Rows.fnExactSplitWaySpec.post enc Try.prog Try.f11 false true false false) := by
  refine returnsInHanded_of_change (C := Try.checked) own started (by kernel_rfl) Try.func11
    (ChangeSpec.witness6 (enc := enc) (C := Try.checked) false ⟨#[], #[.slice none 0 0, .int .i64 0, .int .i64 0], []⟩ 8 (by kernel_rfl) (by kernel_rfl) (by kernel_rfl) (by kernel_rfl)) ?_
  intro W base args ds gs before hval0 hW hcnd _
  have hval : ∀ (j : Nat) t v, Try.f11.params[j]? = some t → args[j]? = some v → Value.okWide Try.prog W .any base t v := hval0
  have hW' := hW
  obtain ⟨p, q, hA0, hV, rfl, hfz, hnd⟩ := hW
  have hA : DataW.TrodAll enc Try.prog W 0 (fun _ => true) true Try.f11.params.toList args.toList ds p := hA0
  rw [Try.params11] at hA hval
  obtain ⟨v0, vs0, d0, ds0, p0, q0, hargs, rfl, rfl, h0, r0⟩ := trodAll_cons hA
  obtain ⟨v1, vs1, d1, ds1, p1, q1, rfl, rfl, rfl, h1, r1⟩ := trodAll_cons r0
  obtain ⟨v2, vs2, d2, ds2, p2, q2, rfl, rfl, rfl, h2, r2⟩ := trodAll_cons r1
  obtain ⟨rfl, rfl, rfl⟩ := trodAll_nil r2
  obtain rfl : args = #[v0, v1, v2] := by cases args; simp_all
  obtain ⟨rfl, rfl⟩ := trodVars_none hV
  have lt0 : ∀ x ∈ p0, x.block < W.heap.size := by obtain ⟨m, hm⟩ := h0; exact DataW.trod_lt m _ _ _ hm
  obtain ⟨a0, n0, c0, l0, rfl, sl0, hn0, hm0⟩ := open_TS (hval 0 48 v0 rfl rfl) h0
  obtain ⟨x1, rfl, rfl, rfl, w1⟩ := open_int Try.underlying3 (hval 1 3 v1 rfl rfl) h1
  obtain ⟨x2, rfl, rfl, rfl, w2⟩ := open_int Try.underlying3 (hval 2 3 v2 rfl rfl) h2
  clear hA0 hval0
  refine (lawSplitWay_walk a0 n0 c0 l0 x1 x2 W sl0 hn0 hm0 (open_wf w1) (open_wf w2)).mono fun e W' ⟨he, bel⟩ => ?_
  subst he
  exact ⟨_, rfl, _, _, _, [], _, [], hW', trodAll_mk1 (shut_bool Try.underlying4 _), (trodAll_cons_mk (Below.trod laidOut (by kernel_rfl) (of_decide_eq_true (by kernel_rfl)) h0 bel lt0) (trodAll_cons_mk (shut_int Try.underlying3 w1) (trodAll_cons_mk (shut_int Try.underlying3 w2) trodAll_mk0))), rfl, bel.frame _, fun h => by cases h⟩

theorem spl_holds_c0 : (Rows.fnExactSplitWayRow.wf (OpenSpec.ofChange Rows.fnExactSplitWaySpec)) = true := by kernel_rfl
theorem spl_holds_c1 : (laidOutB Try.pinned.checked.prog) = true := by kernel_rfl
theorem spl_holds_c2 : (mapsRowed Try.pinned.checked.prog) = true := by kernel_rfl
theorem spl_holds_c3 : (Try.f11.params.all (Try.pinned.checked.prog.readableRec ·)) = true := by kernel_rfl
theorem spl_holds_c4 : (namedTie Try.pinned.checked.prog Rows.fnExactSplitWayRow.named Rows.fnExactSplitWaySpec.vars) = true := by kernel_rfl
theorem spl_holds_c5 : (Rows.fnExactSplitWayRow.stops == []) = true := by kernel_rfl
theorem spl_holds_c6 : (Try.pinned.checked.prog.stops == []) = true := by kernel_rfl
theorem spl_holds_c7 : (Rows.fnExactSplitWayRow.knobs == []) = true := by kernel_rfl
theorem spl_holds_c8 : (Try.pinned.checked.prog.stopKnobs == []) = true := by kernel_rfl
theorem spl_holds_c9 : (Rows.fnExactSplitWayRow.inPlace == Try.pinned.checked.prog.inPlace 11) = true := by kernel_rfl
theorem spl_holds_c10 : (Rows.fnExactSplitWayRow.unfollowed == Try.pinned.checked.prog.unfollowed 11) = true := by kernel_rfl
theorem spl_holds_c11 : (Rows.fnExactSplitWayRow.recurses == Try.pinned.checked.prog.recurses 11) = true := by kernel_rfl
theorem spl_holds_c12 : (Rows.fnExactSplitWayRow.named == Try.pinned.checked.prog.varsNamed 11) = true := by kernel_rfl
theorem spl_holds_c13 : (Rows.fnExactSplitWayRow.maps == (Try.f11.params.toList ++ Rows.fnExactSplitWaySpec.plain.varTypes Try.pinned.checked.prog).any (Try.pinned.checked.prog.mapsRec ·)) = true := by kernel_rfl
theorem spl_holds_c14 : (Rows.fnExactSplitWayRow.ifaces == (Try.f11.params.toList ++ Rows.fnExactSplitWaySpec.plain.varTypes Try.pinned.checked.prog).any (Try.pinned.checked.prog.ifacesRec ·)) = true := by kernel_rfl
theorem spl_holds_c15 : (Rows.fnExactSplitWayRow.mapsOut == Try.pinned.checked.prog.mapsAmong Try.f11.resultTypes.toList) = true := by kernel_rfl
theorem spl_holds_c16 : (Rows.fnExactSplitWayRow.loops == (Try.f11.params.toList ++ Rows.fnExactSplitWaySpec.plain.varTypes Try.pinned.checked.prog).any (Try.pinned.checked.prog.loopsFrom ·)) = true := by kernel_rfl
theorem spl_holds_c17 : (Rows.fnExactSplitWayRow.wideKeys == (Try.f11.params.toList ++ Rows.fnExactSplitWaySpec.plain.varTypes Try.pinned.checked.prog ++ Try.f11.resultTypes.toList).any (Try.pinned.checked.prog.wideKeysFrom ·)) = true := by kernel_rfl
theorem spl_holds_c18 : (Rows.fnExactSplitWaySpec.vars.all (Try.pinned.checked.prog.varReadable ·)) = true := by kernel_rfl
theorem spl_holds_c19 : (Try.f11.resultTypes.all (fun t => Try.pinned.checked.prog.readableRec t && decide (t < Try.pinned.checked.prog.types.size))) = true := by kernel_rfl
theorem spl_holds_c20 : (Rows.fnExactSplitWayRow.ifacesOut == Try.f11.resultTypes.toList.any (Try.pinned.checked.prog.ifacesRec ·)) = true := by kernel_rfl
theorem spl_holds_c21 : (Rows.fnExactSplitWayRow.loopsOut == Try.f11.resultTypes.toList.any (Try.pinned.checked.prog.loopsFrom ·)) = true := by kernel_rfl
theorem spl_holds_c22 : (Rows.fnExactSplitWayRow.plainKeys == Try.pinned.checked.prog.plainKeys) = true := by kernel_rfl
theorem spl_holds_c23 : (Rows.fnExactSplitWayRow.shortTexts.isNone) = true := by kernel_rfl
theorem spl_holds_c24 : (Try.pinned.checked.prog.stopsHeard) = true := by kernel_rfl
theorem spl_holds_c25 : (Try.pinned.checked.prog.mayEnter) = true := io_enter
theorem spl_holds_c26 : (Rows.fnExactSplitWayRow.lifted == Try.pinned.checked.prog.liftsFinal) = true := by rw [io_lifts]; kernel_rfl
theorem spl_holds_c27 : (Try.pinned.checked.prog.make == some Rows.fnExactSplitWayRow.make) = true := by rw [io_make]; kernel_rfl
theorem spl_holds_c28 : (Rows.fnExactSplitWayRow.kinds == (if Rows.fnExactSplitWayRow.domain.isEmpty then [] else Try.f11.params.toList.map fun t => match Try.pinned.checked.prog.underlying t with | some (.int k) => some k | _ => none)) = true := by kernel_rfl
theorem spl_holds_c29 : (Rows.fnExactSplitWayRow.pinned == Rows.fnExactSplitWayRow.pinnedBy) = true := by kernel_rfl
theorem spl_holds_c30 : (Rows.fnExactSplitWayRow.veiled == (Try.f11.params.toList ++ Rows.fnExactSplitWaySpec.plain.varTypes Try.pinned.checked.prog ++ Try.f11.resultTypes.toList).any (Try.pinned.checked.prog.veiledRec ·)) = true := by kernel_rfl
theorem spl_holds_c31 : (Rows.fnExactSplitWayRow.veiledFits Try.pinned.checked.prog Try.f11.params.toList (Try.f11.params.toList ++ Rows.fnExactSplitWaySpec.plain.varTypes Try.pinned.checked.prog ++ Try.f11.resultTypes.toList)) = true := by kernel_rfl
theorem spl_holds_and {a b : Bool} (h : a = true) (k : b = true) : (a && b) = true := by rw [h, k]; rfl
theorem spl_holds_closed : joinedFacts Try.pinned.checked.prog 11 Try.f11 Rows.fnExactSplitWaySpec Rows.fnExactSplitWayRow = true := (spl_holds_and (spl_holds_and (spl_holds_and (spl_holds_and (spl_holds_and (spl_holds_and (spl_holds_and (spl_holds_and (spl_holds_and (spl_holds_and (spl_holds_and (spl_holds_and (spl_holds_and (spl_holds_and (spl_holds_and (spl_holds_and (spl_holds_and (spl_holds_and (spl_holds_and (spl_holds_and (spl_holds_and (spl_holds_and (spl_holds_and (spl_holds_and (spl_holds_and (spl_holds_and (spl_holds_and (spl_holds_and (spl_holds_and (spl_holds_and (spl_holds_and spl_holds_c0 spl_holds_c1) spl_holds_c2) spl_holds_c3) spl_holds_c4) spl_holds_c5) spl_holds_c6) spl_holds_c7) spl_holds_c8) spl_holds_c9) spl_holds_c10) spl_holds_c11) spl_holds_c12) spl_holds_c13) spl_holds_c14) spl_holds_c15) spl_holds_c16) spl_holds_c17) spl_holds_c18) spl_holds_c19) spl_holds_c20) spl_holds_c21) spl_holds_c22) spl_holds_c23) spl_holds_c24) spl_holds_c25) spl_holds_c26) spl_holds_c27) spl_holds_c28) spl_holds_c29) spl_holds_c30) spl_holds_c31)
theorem spl_holds_named : Try.pinned.checked.prog.funcNamed Rows.fnExactSplitWayRow.func = some 11 := by kernel_rfl
theorem spl_holds_inst : Try.f11.isInstance Try.pinned.checked.prog Rows.fnExactSplitWayRow.origin Rows.fnExactSplitWayRow.targs := of_decide_eq_true (by kernel_rfl)
theorem spl_holds_wrap : Try.f11.isWrapper Try.pinned.checked.prog Rows.fnExactSplitWayRow.wrapper Rows.fnExactSplitWayRow.mainSum := by unfold Func.isWrapper; first | (rw [if_pos (by decide +kernel)]; kernel_rfl) | (rw [if_neg (by decide +kernel)]; exact ⟨rfl, rfl⟩)
theorem spl_holds : Rows.FnExactSplitWaySaid :=
  OpenClaim.holds_of_wide 11 Try.f11 rfl rfl rfl rfl rfl rfl rfl ⟨rfl, rfl, rfl, rfl, rfl⟩ rfl rfl rfl rfl rfl spl_holds_named Try.func11 spl_holds_closed spl_holds_inst spl_holds_wrap
    (fun os started H enc _ => spl_holds_lifted os started H enc)
#print axioms spl_holds
end Go.Proofs.Ytgphhlhpoffabaa

/- The law FnExactInTriangle returns true for every argument and leaves it as it was: the given statement FnExactInTriangleSaid. No condition. -/
import Derived.Test.YtblhjeepelgdaaaItrLaw
import Derived.Test.YtblhjeepelgdaaaIo
import Derived.Test.YtblhjeepelgdaaaOpenPt
namespace Go.Proofs.Ytblhjeepelgdaaa
open Go.ChangeShapes Go.WideShapes Go.ChangeAt Go.RowKit Go.Joins
set_option linter.unusedVariables false
set_option maxRecDepth 100000
set_option linter.unusedSimpArgs false

set_option maxRecDepth 100000 in
theorem itr_holds_lifted (os : Os) (started : os.Started) (H : Type) (enc : TypeId × Value → H) :
    ReturnsInHanded {} Try.checked os 10 .any (Rows.fnExactInTriangleSpec.pre6 enc Try.prog Try.f10 Rows.fnExactInTriangleRow.domain false) (Rows.fnExactInTriangleSpec.post enc Try.prog Try.f10 false true false false) := by
  refine returnsInHanded_of_change (C := Try.checked) own started (by kernel_rfl) Try.func10
    (ChangeSpec.witness6 (enc := enc) (C := Try.checked) false ⟨#[], #[.agg #[.int .i64 0, .int .i64 0], .agg #[.int .i64 0, .int .i64 0], .agg #[.int .i64 0, .int .i64 0], .agg #[.int .i64 0, .int .i64 0]], []⟩ 8 (by kernel_rfl) (by kernel_rfl) (by kernel_rfl) (by kernel_rfl)) ?_
  intro W base args ds gs before hval0 hW hcnd _
  have hval : ∀ (j : Nat) t v, Try.f10.params[j]? = some t → args[j]? = some v → Value.okWide Try.prog W .any base t v := hval0
  have hW' := hW
  obtain ⟨p, q, hA0, hV, rfl, hfz, hnd⟩ := hW
  have hA : DataW.TrodAll enc Try.prog W 0 (fun _ => true) true Try.f10.params.toList args.toList ds p := hA0
  rw [Try.params10] at hA hval
  obtain ⟨v0, vs0, d0, ds0, p0, q0, hargs, rfl, rfl, h0, r0⟩ := trodAll_cons hA
  obtain ⟨v1, vs1, d1, ds1, p1, q1, rfl, rfl, rfl, h1, r1⟩ := trodAll_cons r0
  obtain ⟨v2, vs2, d2, ds2, p2, q2, rfl, rfl, rfl, h2, r2⟩ := trodAll_cons r1
  obtain ⟨v3, vs3, d3, ds3, p3, q3, rfl, rfl, rfl, h3, r3⟩ := trodAll_cons r2
  obtain ⟨rfl, rfl, rfl⟩ := trodAll_nil r3
  obtain rfl : args = #[v0, v1, v2, v3] := by cases args; simp_all
  obtain ⟨rfl, rfl⟩ := trodVars_none hV
  have lt0 : ∀ x ∈ p0, x.block < W.heap.size := by obtain ⟨m, hm⟩ := h0; exact DataW.trod_lt m _ _ _ hm
  obtain ⟨t0, rfl⟩ := open_T (hval 0 57 v0 rfl rfl) h0
  have lt1 : ∀ x ∈ p1, x.block < W.heap.size := by obtain ⟨m, hm⟩ := h1; exact DataW.trod_lt m _ _ _ hm
  obtain ⟨t1, rfl⟩ := open_T (hval 1 57 v1 rfl rfl) h1
  have lt2 : ∀ x ∈ p2, x.block < W.heap.size := by obtain ⟨m, hm⟩ := h2; exact DataW.trod_lt m _ _ _ hm
  obtain ⟨t2, rfl⟩ := open_T (hval 2 57 v2 rfl rfl) h2
  have lt3 : ∀ x ∈ p3, x.block < W.heap.size := by obtain ⟨m, hm⟩ := h3; exact DataW.trod_lt m _ _ _ hm
  obtain ⟨t3, rfl⟩ := open_T (hval 3 57 v3 rfl rfl) h3
  clear hA0 hval0
  refine (lawInTriangle_walk t0 t1 t2 t3 W).mono fun e W' ⟨he, bel⟩ => ?_
  subst he
  exact ⟨_, rfl, _, _, _, [], _, [], hW', trodAll_mk1 (shut_bool Try.underlying4 _), (trodAll_cons_mk (Below.trod laidOut (by kernel_rfl) (of_decide_eq_true (by kernel_rfl)) h0 bel lt0) (trodAll_cons_mk (Below.trod laidOut (by kernel_rfl) (of_decide_eq_true (by kernel_rfl)) h1 bel lt1) (trodAll_cons_mk (Below.trod laidOut (by kernel_rfl) (of_decide_eq_true (by kernel_rfl)) h2 bel lt2) (trodAll_cons_mk (Below.trod laidOut (by kernel_rfl) (of_decide_eq_true (by kernel_rfl)) h3 bel lt3) trodAll_mk0)))), rfl, bel.frame _, fun h => by cases h⟩

theorem itr_holds_c0 : (Rows.fnExactInTriangleRow.wf (OpenSpec.ofChange Rows.fnExactInTriangleSpec)) = true := by kernel_rfl
theorem itr_holds_c1 : (laidOutB Try.pinned.checked.prog) = true := by kernel_rfl
theorem itr_holds_c2 : (mapsRowed Try.pinned.checked.prog) = true := by kernel_rfl
theorem itr_holds_c3 : (Try.f10.params.all (Try.pinned.checked.prog.readableRec ·)) = true := by kernel_rfl
theorem itr_holds_c4 : (namedTie Try.pinned.checked.prog Rows.fnExactInTriangleRow.named Rows.fnExactInTriangleSpec.vars) = true := by kernel_rfl
theorem itr_holds_c5 : (Rows.fnExactInTriangleRow.stops == []) = true := by kernel_rfl
theorem itr_holds_c6 : (Try.pinned.checked.prog.stops == []) = true := by kernel_rfl
theorem itr_holds_c7 : (Rows.fnExactInTriangleRow.knobs == []) = true := by kernel_rfl
theorem itr_holds_c8 : (Try.pinned.checked.prog.stopKnobs == []) = true := by kernel_rfl
theorem itr_holds_c9 : (Rows.fnExactInTriangleRow.inPlace == Try.pinned.checked.prog.inPlace 10) = true := by kernel_rfl
theorem itr_holds_c10 : (Rows.fnExactInTriangleRow.unfollowed == Try.pinned.checked.prog.unfollowed 10) = true := by kernel_rfl
theorem itr_holds_c11 : (Rows.fnExactInTriangleRow.recurses == Try.pinned.checked.prog.recurses 10) = true := by kernel_rfl
theorem itr_holds_c12 : (Rows.fnExactInTriangleRow.named == Try.pinned.checked.prog.varsNamed 10) = true := by kernel_rfl
theorem itr_holds_c13 : (Rows.fnExactInTriangleRow.maps == (Try.f10.params.toList ++ Rows.fnExactInTriangleSpec.plain.varTypes Try.pinned.checked.prog).any (Try.pinned.checked.prog.mapsRec ·)) = true := by kernel_rfl
theorem itr_holds_c14 : (Rows.fnExactInTriangleRow.ifaces == (Try.f10.params.toList ++ Rows.fnExactInTriangleSpec.plain.varTypes Try.pinned.checked.prog).any (Try.pinned.checked.prog.ifacesRec ·)) = true := by kernel_rfl
theorem itr_holds_c15 : (Rows.fnExactInTriangleRow.mapsOut == Try.pinned.checked.prog.mapsAmong Try.f10.resultTypes.toList) = true := by kernel_rfl
theorem itr_holds_c16 : (Rows.fnExactInTriangleRow.loops == (Try.f10.params.toList ++ Rows.fnExactInTriangleSpec.plain.varTypes Try.pinned.checked.prog).any (Try.pinned.checked.prog.loopsFrom ·)) = true := by kernel_rfl
theorem itr_holds_c17 : (Rows.fnExactInTriangleRow.wideKeys == (Try.f10.params.toList ++ Rows.fnExactInTriangleSpec.plain.varTypes Try.pinned.checked.prog ++ Try.f10.resultTypes.toList).any (Try.pinned.checked.prog.wideKeysFrom ·)) = true := by kernel_rfl
theorem itr_holds_c18 : (Rows.fnExactInTriangleSpec.vars.all (Try.pinned.checked.prog.varReadable ·)) = true := by kernel_rfl
theorem itr_holds_c19 : (Try.f10.resultTypes.all (fun t => Try.pinned.checked.prog.readableRec t && decide (t < Try.pinned.checked.prog.types.size))) = true := by kernel_rfl
theorem itr_holds_c20 : (Rows.fnExactInTriangleRow.ifacesOut == Try.f10.resultTypes.toList.any (Try.pinned.checked.prog.ifacesRec ·)) = true := by kernel_rfl
theorem itr_holds_c21 : (Rows.fnExactInTriangleRow.loopsOut == Try.f10.resultTypes.toList.any (Try.pinned.checked.prog.loopsFrom ·)) = true := by kernel_rfl
theorem itr_holds_c22 : (Rows.fnExactInTriangleRow.plainKeys == Try.pinned.checked.prog.plainKeys) = true := by kernel_rfl
theorem itr_holds_c23 : (Rows.fnExactInTriangleRow.shortTexts.isNone) = true := by kernel_rfl
theorem itr_holds_c24 : (Try.pinned.checked.prog.stopsHeard) = true := by kernel_rfl
theorem itr_holds_c25 : (Try.pinned.checked.prog.mayEnter) = true := io_enter
theorem itr_holds_c26 : (Rows.fnExactInTriangleRow.lifted == Try.pinned.checked.prog.liftsFinal) = true := by rw [io_lifts]; kernel_rfl
theorem itr_holds_c27 : (Try.pinned.checked.prog.make == some Rows.fnExactInTriangleRow.make) = true := by rw [io_make]; kernel_rfl
theorem itr_holds_c28 : (Rows.fnExactInTriangleRow.kinds == (if Rows.fnExactInTriangleRow.domain.isEmpty then [] else Try.f10.params.toList.map fun t => match Try.pinned.checked.prog.underlying t with | some (.int k) => some k | _ => none)) = true := by kernel_rfl
theorem itr_holds_c29 : (Rows.fnExactInTriangleRow.pinned == Rows.fnExactInTriangleRow.pinnedBy) = true := by kernel_rfl
theorem itr_holds_c30 : (Rows.fnExactInTriangleRow.veiled == (Try.f10.params.toList ++ Rows.fnExactInTriangleSpec.plain.varTypes Try.pinned.checked.prog ++ Try.f10.resultTypes.toList).any (Try.pinned.checked.prog.veiledRec ·)) = true := by kernel_rfl
theorem itr_holds_c31 : (Rows.fnExactInTriangleRow.veiledFits Try.pinned.checked.prog Try.f10.params.toList (Try.f10.params.toList ++ Rows.fnExactInTriangleSpec.plain.varTypes Try.pinned.checked.prog ++ Try.f10.resultTypes.toList)) = true := by kernel_rfl
theorem itr_holds_and {a b : Bool} (h : a = true) (k : b = true) : (a && b) = true := by rw [h, k]; rfl
theorem itr_holds_closed : joinedFacts Try.pinned.checked.prog 10 Try.f10 Rows.fnExactInTriangleSpec Rows.fnExactInTriangleRow = true := (itr_holds_and (itr_holds_and (itr_holds_and (itr_holds_and (itr_holds_and (itr_holds_and (itr_holds_and (itr_holds_and (itr_holds_and (itr_holds_and (itr_holds_and (itr_holds_and (itr_holds_and (itr_holds_and (itr_holds_and (itr_holds_and (itr_holds_and (itr_holds_and (itr_holds_and (itr_holds_and (itr_holds_and (itr_holds_and (itr_holds_and (itr_holds_and (itr_holds_and (itr_holds_and (itr_holds_and (itr_holds_and (itr_holds_and (itr_holds_and (itr_holds_and itr_holds_c0 itr_holds_c1) itr_holds_c2) itr_holds_c3) itr_holds_c4) itr_holds_c5) itr_holds_c6) itr_holds_c7) itr_holds_c8) itr_holds_c9) itr_holds_c10) itr_holds_c11) itr_holds_c12) itr_holds_c13) itr_holds_c14) itr_holds_c15) itr_holds_c16) itr_holds_c17) itr_holds_c18) itr_holds_c19) itr_holds_c20) itr_holds_c21) itr_holds_c22) itr_holds_c23) itr_holds_c24) itr_holds_c25) itr_holds_c26) itr_holds_c27) itr_holds_c28) itr_holds_c29) itr_holds_c30) itr_holds_c31)
theorem itr_holds_named : Try.pinned.checked.prog.funcNamed Rows.fnExactInTriangleRow.func = some 10 := by kernel_rfl
theorem itr_holds_inst : Try.f10.isInstance Try.pinned.checked.prog Rows.fnExactInTriangleRow.origin Rows.fnExactInTriangleRow.targs := of_decide_eq_true (by kernel_rfl)
theorem itr_holds_wrap : Try.f10.isWrapper Try.pinned.checked.prog Rows.fnExactInTriangleRow.wrapper Rows.fnExactInTriangleRow.mainSum := by unfold Func.isWrapper; first | (rw [if_pos (by decide +kernel)]; kernel_rfl) | (rw [if_neg (by decide +kernel)]; exact ⟨rfl, rfl⟩)
theorem itr_holds : Rows.FnExactInTriangleSaid :=
  OpenClaim.holds_of_wide 10 Try.f10 rfl rfl rfl rfl rfl rfl rfl ⟨rfl, rfl, rfl, rfl, rfl⟩ rfl rfl rfl rfl rfl itr_holds_named Try.func10 itr_holds_closed itr_holds_inst itr_holds_wrap
    (fun os started H enc _ => itr_holds_lifted os started H enc)
#print axioms itr_holds
end Go.Proofs.Ytblhjeepelgdaaa

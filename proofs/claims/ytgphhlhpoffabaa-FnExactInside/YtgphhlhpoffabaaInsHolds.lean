/- The law FnExactInside returns true for every argument and leaves it as it was: the given statement FnExactInsideSaid. No condition. -/
import Derived.Test.YtgphhlhpoffabaaInsLaw
import Derived.Test.YtgphhlhpoffabaaIo
import Derived.Test.YtgphhlhpoffabaaOpenPt
namespace Go.Proofs.Ytgphhlhpoffabaa
open Go.ChangeShapes Go.WideShapes Go.ChangeAt Go.RowKit Go.Joins
set_option linter.unusedVariables false
set_option maxRecDepth 100000
set_option linter.unusedSimpArgs false

set_option maxRecDepth 100000 in
theorem ins_holds_lifted (os : Os) (started : os.Started) (H : Type) (enc : TypeId × Value → H) :
    ReturnsInHanded {} Try.checked os 8 .any (Rows.fnExactInsideSpec.pre6 enc Try.prog Try.f8 Rows.fnExactInsideRow.domain false) (Rows.fnExactInsideSpec.post enc Try.prog Try.f8 false true false false) := by
  refine returnsInHanded_of_change (C := Try.checked) own started (by kernel_rfl) Try.func8
    (ChangeSpec.witness6 (enc := enc) (C := Try.checked) false ⟨#[], #[.slice none 0 0, .agg #[.int .i64 0, .int .i64 0], .bool false], []⟩ 8 (by kernel_rfl) (by kernel_rfl) (by kernel_rfl) (by kernel_rfl)) ?_
  intro W base args ds gs before hval0 hW hcnd _
  have hval : ∀ (j : Nat) t v, Try.f8.params[j]? = some t → args[j]? = some v → Value.okWide Try.prog W .any base t v := hval0
  have hW' := hW
  obtain ⟨p, q, hA0, hV, rfl, hfz, hnd⟩ := hW
  have hA : DataW.TrodAll enc Try.prog W 0 (fun _ => true) true Try.f8.params.toList args.toList ds p := hA0
  rw [Try.params8] at hA hval
  obtain ⟨v0, vs0, d0, ds0, p0, q0, hargs, rfl, rfl, h0, r0⟩ := trodAll_cons hA
  obtain ⟨v1, vs1, d1, ds1, p1, q1, rfl, rfl, rfl, h1, r1⟩ := trodAll_cons r0
  obtain ⟨v2, vs2, d2, ds2, p2, q2, rfl, rfl, rfl, h2, r2⟩ := trodAll_cons r1
  obtain ⟨rfl, rfl, rfl⟩ := trodAll_nil r2
  obtain rfl : args = #[v0, v1, v2] := by cases args; simp_all
  obtain ⟨rfl, rfl⟩ := trodVars_none hV
  have lt0 : ∀ x ∈ p0, x.block < W.heap.size := by obtain ⟨m, hm⟩ := h0; exact DataW.trod_lt m _ _ _ hm
  obtain ⟨a0, n0, c0, l0, rfl, sl0, hn0, hm0⟩ := open_TS (hval 0 48 v0 rfl rfl) h0
  have lt1 : ∀ x ∈ p1, x.block < W.heap.size := by obtain ⟨m, hm⟩ := h1; exact DataW.trod_lt m _ _ _ hm
  obtain ⟨t1, rfl⟩ := open_T (hval 1 49 v1 rfl rfl) h1
  obtain ⟨x2, rfl, rfl, rfl⟩ := open_bool Try.underlying4 (hval 2 4 v2 rfl rfl) h2
  clear hA0 hval0
  refine (lawInside_walk a0 n0 c0 l0 t1 x2 W sl0 hn0 hm0).mono fun e W' ⟨he, bel⟩ => ?_
  subst he
  exact ⟨_, rfl, _, _, _, [], _, [], hW', trodAll_mk1 (shut_bool Try.underlying4 _), (trodAll_cons_mk (Below.trod laidOut (by kernel_rfl) (of_decide_eq_true (by kernel_rfl)) h0 bel lt0) (trodAll_cons_mk (Below.trod laidOut (by kernel_rfl) (of_decide_eq_true (by kernel_rfl)) h1 bel lt1) (trodAll_cons_mk (shut_bool Try.underlying4 _) trodAll_mk0))), rfl, bel.frame _, fun h => by cases h⟩

theorem ins_holds_c0 : (Rows.fnExactInsideRow.wf (OpenSpec.ofChange Rows.fnExactInsideSpec)) = true := by kernel_rfl
theorem ins_holds_c1 : (laidOutB Try.pinned.checked.prog) = true := by kernel_rfl
theorem ins_holds_c2 : (mapsRowed Try.pinned.checked.prog) = true := by kernel_rfl
theorem ins_holds_c3 : (Try.f8.params.all (Try.pinned.checked.prog.readableRec ·)) = true := by kernel_rfl
theorem ins_holds_c4 : (namedTie Try.pinned.checked.prog Rows.fnExactInsideRow.named Rows.fnExactInsideSpec.vars) = true := by kernel_rfl
theorem ins_holds_c5 : (Rows.fnExactInsideRow.stops == []) = true := by kernel_rfl
theorem ins_holds_c6 : (Try.pinned.checked.prog.stops == []) = true := by kernel_rfl
theorem ins_holds_c7 : (Rows.fnExactInsideRow.knobs == []) = true := by kernel_rfl
theorem ins_holds_c8 : (Try.pinned.checked.prog.stopKnobs == []) = true := by kernel_rfl
theorem ins_holds_c9 : (Rows.fnExactInsideRow.inPlace == Try.pinned.checked.prog.inPlace 8) = true := by kernel_rfl
theorem ins_holds_c10 : (Rows.fnExactInsideRow.unfollowed == Try.pinned.checked.prog.unfollowed 8) = true := by kernel_rfl
theorem ins_holds_c11 : (Rows.fnExactInsideRow.recurses == Try.pinned.checked.prog.recurses 8) = true := by kernel_rfl
theorem ins_holds_c12 : (Rows.fnExactInsideRow.named == Try.pinned.checked.prog.varsNamed 8) = true := by kernel_rfl
theorem ins_holds_c13 : (Rows.fnExactInsideRow.maps == (Try.f8.params.toList ++ Rows.fnExactInsideSpec.plain.varTypes Try.pinned.checked.prog).any (Try.pinned.checked.prog.mapsRec ·)) = true := by kernel_rfl
theorem ins_holds_c14 : (Rows.fnExactInsideRow.ifaces == (Try.f8.params.toList ++ Rows.fnExactInsideSpec.plain.varTypes Try.pinned.checked.prog).any (Try.pinned.checked.prog.ifacesRec ·)) = true := by kernel_rfl
theorem ins_holds_c15 : (Rows.fnExactInsideRow.mapsOut == Try.pinned.checked.prog.mapsAmong Try.f8.resultTypes.toList) = true := by kernel_rfl
theorem ins_holds_c16 : (Rows.fnExactInsideRow.loops == (Try.f8.params.toList ++ Rows.fnExactInsideSpec.plain.varTypes Try.pinned.checked.prog).any (Try.pinned.checked.prog.loopsFrom ·)) = true := by kernel_rfl
theorem ins_holds_c17 : (Rows.fnExactInsideRow.wideKeys == (Try.f8.params.toList ++ Rows.fnExactInsideSpec.plain.varTypes Try.pinned.checked.prog ++ Try.f8.resultTypes.toList).any (Try.pinned.checked.prog.wideKeysFrom ·)) = true := by kernel_rfl
theorem ins_holds_c18 : (Rows.fnExactInsideSpec.vars.all (Try.pinned.checked.prog.varReadable ·)) = true := by kernel_rfl
theorem ins_holds_c19 : (Try.f8.resultTypes.all (fun t => Try.pinned.checked.prog.readableRec t && decide (t < Try.pinned.checked.prog.types.size))) = true := by kernel_rfl
theorem ins_holds_c20 : (Rows.fnExactInsideRow.ifacesOut == Try.f8.resultTypes.toList.any (Try.pinned.checked.prog.ifacesRec ·)) = true := by kernel_rfl
theorem ins_holds_c21 : (Rows.fnExactInsideRow.loopsOut == Try.f8.resultTypes.toList.any (Try.pinned.checked.prog.loopsFrom ·)) = true := by kernel_rfl
theorem ins_holds_c22 : (Rows.fnExactInsideRow.plainKeys == Try.pinned.checked.prog.plainKeys) = true := by kernel_rfl
theorem ins_holds_c23 : (Rows.fnExactInsideRow.shortTexts.isNone) = true := by kernel_rfl
theorem ins_holds_c24 : (Try.pinned.checked.prog.stopsHeard) = true := by kernel_rfl
theorem ins_holds_c25 : (Try.pinned.checked.prog.mayEnter) = true := io_enter
theorem ins_holds_c26 : (Rows.fnExactInsideRow.lifted == Try.pinned.checked.prog.liftsFinal) = true := by rw [io_lifts]; kernel_rfl
theorem ins_holds_c27 : (Try.pinned.checked.prog.make == some Rows.fnExactInsideRow.make) = true := by rw [io_make]; kernel_rfl
theorem ins_holds_c28 : (Rows.fnExactInsideRow.kinds == (if Rows.fnExactInsideRow.domain.isEmpty then [] else Try.f8.params.toList.map fun t => match Try.pinned.checked.prog.underlying t with | some (.int k) => some k | _ => none)) = true := by kernel_rfl
theorem ins_holds_c29 : (Rows.fnExactInsideRow.pinned == Rows.fnExactInsideRow.pinnedBy) = true := by kernel_rfl
theorem ins_holds_c30 : (Rows.fnExactInsideRow.veiled == (Try.f8.params.toList ++ Rows.fnExactInsideSpec.plain.varTypes Try.pinned.checked.prog ++ Try.f8.resultTypes.toList).any (Try.pinned.checked.prog.veiledRec ·)) = true := by kernel_rfl
theorem ins_holds_c31 : (Rows.fnExactInsideRow.veiledFits Try.pinned.checked.prog Try.f8.params.toList (Try.f8.params.toList ++ Rows.fnExactInsideSpec.plain.varTypes Try.pinned.checked.prog ++ Try.f8.resultTypes.toList)) = true := by kernel_rfl
theorem ins_holds_and {a b : Bool} (h : a = true) (k : b = true) : (a && b) = true := by rw [h, k]; rfl
theorem ins_holds_closed : joinedFacts Try.pinned.checked.prog 8 Try.f8 Rows.fnExactInsideSpec Rows.fnExactInsideRow = true := (ins_holds_and (ins_holds_and (ins_holds_and (ins_holds_and (ins_holds_and (ins_holds_and (ins_holds_and (ins_holds_and (ins_holds_and (ins_holds_and (ins_holds_and (ins_holds_and (ins_holds_and (ins_holds_and (ins_holds_and (ins_holds_and (ins_holds_and (ins_holds_and (ins_holds_and (ins_holds_and (ins_holds_and (ins_holds_and (ins_holds_and (ins_holds_and (ins_holds_and (ins_holds_and (ins_holds_and (ins_holds_and (ins_holds_and (ins_holds_and (ins_holds_and ins_holds_c0 ins_holds_c1) ins_holds_c2) ins_holds_c3) ins_holds_c4) ins_holds_c5) ins_holds_c6) ins_holds_c7) ins_holds_c8) ins_holds_c9) ins_holds_c10) ins_holds_c11) ins_holds_c12) ins_holds_c13) ins_holds_c14) ins_holds_c15) ins_holds_c16) ins_holds_c17) ins_holds_c18) ins_holds_c19) ins_holds_c20) ins_holds_c21) ins_holds_c22) ins_holds_c23) ins_holds_c24) ins_holds_c25) ins_holds_c26) ins_holds_c27) ins_holds_c28) ins_holds_c29) ins_holds_c30) ins_holds_c31)
theorem ins_holds_named : Try.pinned.checked.prog.funcNamed Rows.fnExactInsideRow.func = some 8 := by kernel_rfl
theorem ins_holds_inst : Try.f8.isInstance Try.pinned.checked.prog Rows.fnExactInsideRow.origin Rows.fnExactInsideRow.targs := of_decide_eq_true (by kernel_rfl)
theorem ins_holds_wrap : Try.f8.isWrapper Try.pinned.checked.prog Rows.fnExactInsideRow.wrapper Rows.fnExactInsideRow.mainSum := by unfold Func.isWrapper; first | (rw [if_pos (by decide +kernel)]; kernel_rfl) | (rw [if_neg (by decide +kernel)]; exact ⟨rfl, rfl⟩)
theorem ins_holds : Rows.FnExactInsideSaid :=
  OpenClaim.holds_of_wide 8 Try.f8 rfl rfl rfl rfl rfl rfl rfl ⟨rfl, rfl, rfl, rfl, rfl⟩ rfl rfl rfl rfl rfl ins_holds_named Try.func8 ins_holds_closed ins_holds_inst ins_holds_wrap
    (fun os started H enc _ => ins_holds_lifted os started H enc)
#print axioms ins_holds
end Go.Proofs.Ytgphhlhpoffabaa

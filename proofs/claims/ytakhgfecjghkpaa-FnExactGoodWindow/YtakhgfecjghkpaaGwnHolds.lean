/- The law FnExactGoodWindow returns true for every argument and leaves it as it was: the given statement FnExactGoodWindowSaid. No condition. -/
import Derived.Test.YtakhgfecjghkpaaGwnLaw
import Derived.Test.YtakhgfecjghkpaaIo
import Derived.Test.YtakhgfecjghkpaaOpenWn
namespace Go.Proofs.Ytakhgfecjghkpaa
open Go.ChangeShapes Go.WideShapes Go.ChangeAt Go.RowKit Go.Joins
set_option linter.unusedVariables false
set_option maxRecDepth 100000
set_option linter.unusedSimpArgs false

set_option maxRecDepth 100000 in
theorem gwn_holds_lifted (os : Os) (started : os.Started) (H : Type) (enc : TypeId × Value → H) :
    ReturnsInHanded {} Try.checked os 3 .any (Rows.fnExactGoodWindowSpec.pre6 enc Try.prog Try.f3 Rows.fnExactGoodWindowRow.domain false) (Rows.fnExactGoodWindowSpec.post enc Try.prog Try.f3 false true false false) := by
  refine returnsInHanded_of_change (C := Try.checked) own started (by kernel_rfl) Try.func3
    (ChangeSpec.witness6 (enc := enc) (C := Try.checked) false ⟨#[], #[.agg #[.int .i64 0, .int .i64 0, .int .i64 0, .int .i64 0]], []⟩ 8 (by kernel_rfl) (by kernel_rfl) (by kernel_rfl) (by kernel_rfl)) ?_
  intro W base args ds gs before hval0 hW hcnd _
  have hval : ∀ (j : Nat) t v, Try.f3.params[j]? = some t → args[j]? = some v → Value.okWide Try.prog W .any base t v := hval0
  have hW' := hW
  obtain ⟨p, q, hA0, hV, rfl, hfz, hnd⟩ := hW
  have hA : DataW.TrodAll enc Try.prog W 0 (fun _ => true) true Try.f3.params.toList args.toList ds p := hA0
  rw [Try.params3] at hA hval
  obtain ⟨v0, vs0, d0, ds0, p0, q0, hargs, rfl, rfl, h0, r0⟩ := trodAll_cons hA
  obtain ⟨rfl, rfl, rfl⟩ := trodAll_nil r0
  obtain rfl : args = #[v0] := by cases args; simp_all
  obtain ⟨rfl, rfl⟩ := trodVars_none hV
  have lt0 : ∀ x ∈ p0, x.block < W.heap.size := by obtain ⟨m, hm⟩ := h0; exact DataW.trod_lt m _ _ _ hm
  obtain ⟨t0, rfl⟩ := open_W (hval 0 23 v0 rfl rfl) h0
  clear hA0 hval0
  refine (lawGoodWindow_walk t0 W).mono fun e W' ⟨he, bel⟩ => ?_
  subst he
  exact ⟨_, rfl, _, _, _, [], _, [], hW', trodAll_mk1 (shut_bool Try.underlying4 _), (trodAll_cons_mk (Below.trod laidOut (by kernel_rfl) (of_decide_eq_true (by kernel_rfl)) h0 bel lt0) trodAll_mk0), rfl, bel.frame _, fun h => by cases h⟩

theorem gwn_holds_c0 : (Rows.fnExactGoodWindowRow.wf (OpenSpec.ofChange Rows.fnExactGoodWindowSpec)) = true := by kernel_rfl
theorem gwn_holds_c1 : (laidOutB Try.pinned.checked.prog) = true := by kernel_rfl
theorem gwn_holds_c2 : (mapsRowed Try.pinned.checked.prog) = true := by kernel_rfl
theorem gwn_holds_c3 : (Try.f3.params.all (Try.pinned.checked.prog.readableRec ·)) = true := by kernel_rfl
theorem gwn_holds_c4 : (namedTie Try.pinned.checked.prog Rows.fnExactGoodWindowRow.named Rows.fnExactGoodWindowSpec.vars) = true := by kernel_rfl
theorem gwn_holds_c5 : (Rows.fnExactGoodWindowRow.stops == []) = true := by kernel_rfl
theorem gwn_holds_c6 : (Try.pinned.checked.prog.stops == []) = true := by kernel_rfl
theorem gwn_holds_c7 : (Rows.fnExactGoodWindowRow.knobs == []) = true := by kernel_rfl
theorem gwn_holds_c8 : (Try.pinned.checked.prog.stopKnobs == []) = true := by kernel_rfl
theorem gwn_holds_c9 : (Rows.fnExactGoodWindowRow.inPlace == Try.pinned.checked.prog.inPlace 3) = true := by kernel_rfl
theorem gwn_holds_c10 : (Rows.fnExactGoodWindowRow.unfollowed == Try.pinned.checked.prog.unfollowed 3) = true := by kernel_rfl
theorem gwn_holds_c11 : (Rows.fnExactGoodWindowRow.recurses == Try.pinned.checked.prog.recurses 3) = true := by kernel_rfl
theorem gwn_holds_c12 : (Rows.fnExactGoodWindowRow.named == Try.pinned.checked.prog.varsNamed 3) = true := by kernel_rfl
theorem gwn_holds_c13 : (Rows.fnExactGoodWindowRow.maps == (Try.f3.params.toList ++ Rows.fnExactGoodWindowSpec.plain.varTypes Try.pinned.checked.prog).any (Try.pinned.checked.prog.mapsRec ·)) = true := by kernel_rfl
theorem gwn_holds_c14 : (Rows.fnExactGoodWindowRow.ifaces == (Try.f3.params.toList ++ Rows.fnExactGoodWindowSpec.plain.varTypes Try.pinned.checked.prog).any (Try.pinned.checked.prog.ifacesRec ·)) = true := by kernel_rfl
theorem gwn_holds_c15 : (Rows.fnExactGoodWindowRow.mapsOut == Try.pinned.checked.prog.mapsAmong Try.f3.resultTypes.toList) = true := by kernel_rfl
theorem gwn_holds_c16 : (Rows.fnExactGoodWindowRow.loops == (Try.f3.params.toList ++ Rows.fnExactGoodWindowSpec.plain.varTypes Try.pinned.checked.prog).any (Try.pinned.checked.prog.loopsFrom ·)) = true := by kernel_rfl
theorem gwn_holds_c17 : (Rows.fnExactGoodWindowRow.wideKeys == (Try.f3.params.toList ++ Rows.fnExactGoodWindowSpec.plain.varTypes Try.pinned.checked.prog ++ Try.f3.resultTypes.toList).any (Try.pinned.checked.prog.wideKeysFrom ·)) = true := by kernel_rfl
theorem gwn_holds_c18 : (Rows.fnExactGoodWindowSpec.vars.all (Try.pinned.checked.prog.varReadable ·)) = true := by kernel_rfl
theorem gwn_holds_c19 : (Try.f3.resultTypes.all (fun t => Try.pinned.checked.prog.readableRec t && decide (t < Try.pinned.checked.prog.types.size))) = true := by kernel_rfl
theorem gwn_holds_c20 : (Rows.fnExactGoodWindowRow.ifacesOut == Try.f3.resultTypes.toList.any (Try.pinned.checked.prog.ifacesRec ·)) = true := by kernel_rfl
theorem gwn_holds_c21 : (Rows.fnExactGoodWindowRow.loopsOut == Try.f3.resultTypes.toList.any (Try.pinned.checked.prog.loopsFrom ·)) = true := by kernel_rfl
theorem gwn_holds_c22 : (Rows.fnExactGoodWindowRow.plainKeys == Try.pinned.checked.prog.plainKeys) = true := by kernel_rfl
theorem gwn_holds_c23 : (Rows.fnExactGoodWindowRow.shortTexts.isNone) = true := by kernel_rfl
theorem gwn_holds_c24 : (Try.pinned.checked.prog.stopsHeard) = true := by kernel_rfl
theorem gwn_holds_c25 : (Try.pinned.checked.prog.mayEnter) = true := io_enter
theorem gwn_holds_c26 : (Rows.fnExactGoodWindowRow.lifted == Try.pinned.checked.prog.liftsFinal) = true := by rw [io_lifts]; kernel_rfl
theorem gwn_holds_c27 : (Try.pinned.checked.prog.make == some Rows.fnExactGoodWindowRow.make) = true := by rw [io_make]; kernel_rfl
theorem gwn_holds_c28 : (Rows.fnExactGoodWindowRow.kinds == (if Rows.fnExactGoodWindowRow.domain.isEmpty then [] else Try.f3.params.toList.map fun t => match Try.pinned.checked.prog.underlying t with | some (.int k) => some k | _ => none)) = true := by kernel_rfl
theorem gwn_holds_c29 : (Rows.fnExactGoodWindowRow.pinned == Rows.fnExactGoodWindowRow.pinnedBy) = true := by kernel_rfl
theorem gwn_holds_c30 : (Rows.fnExactGoodWindowRow.veiled == (Try.f3.params.toList ++ Rows.fnExactGoodWindowSpec.plain.varTypes Try.pinned.checked.prog ++ Try.f3.resultTypes.toList).any (Try.pinned.checked.prog.veiledRec ·)) = true := by kernel_rfl
theorem gwn_holds_c31 : (Rows.fnExactGoodWindowRow.veiledFits Try.pinned.checked.prog Try.f3.params.toList (Try.f3.params.toList ++ Rows.fnExactGoodWindowSpec.plain.varTypes Try.pinned.checked.prog ++ Try.f3.resultTypes.toList)) = true := by kernel_rfl
theorem gwn_holds_and {a b : Bool} (h : a = true) (k : b = true) : (a && b) = true := by rw [h, k]; rfl
theorem gwn_holds_closed : joinedFacts Try.pinned.checked.prog 3 Try.f3 Rows.fnExactGoodWindowSpec Rows.fnExactGoodWindowRow = true := (gwn_holds_and (gwn_holds_and (gwn_holds_and (gwn_holds_and (gwn_holds_and (gwn_holds_and (gwn_holds_and (gwn_holds_and (gwn_holds_and (gwn_holds_and (gwn_holds_and (gwn_holds_and (gwn_holds_and (gwn_holds_and (gwn_holds_and (gwn_holds_and (gwn_holds_and (gwn_holds_and (gwn_holds_and (gwn_holds_and (gwn_holds_and (gwn_holds_and (gwn_holds_and (gwn_holds_and (gwn_holds_and (gwn_holds_and (gwn_holds_and (gwn_holds_and (gwn_holds_and (gwn_holds_and (gwn_holds_and gwn_holds_c0 gwn_holds_c1) gwn_holds_c2) gwn_holds_c3) gwn_holds_c4) gwn_holds_c5) gwn_holds_c6) gwn_holds_c7) gwn_holds_c8) gwn_holds_c9) gwn_holds_c10) gwn_holds_c11) gwn_holds_c12) gwn_holds_c13) gwn_holds_c14) gwn_holds_c15) gwn_holds_c16) gwn_holds_c17) gwn_holds_c18) gwn_holds_c19) gwn_holds_c20) gwn_holds_c21) gwn_holds_c22) gwn_holds_c23) gwn_holds_c24) gwn_holds_c25) gwn_holds_c26) gwn_holds_c27) gwn_holds_c28) gwn_holds_c29) gwn_holds_c30) gwn_holds_c31)
theorem gwn_holds_named : Try.pinned.checked.prog.funcNamed Rows.fnExactGoodWindowRow.func = some 3 := by kernel_rfl
theorem gwn_holds_inst : Try.f3.isInstance Try.pinned.checked.prog Rows.fnExactGoodWindowRow.origin Rows.fnExactGoodWindowRow.targs := of_decide_eq_true (by kernel_rfl)
theorem gwn_holds_wrap : Try.f3.isWrapper Try.pinned.checked.prog Rows.fnExactGoodWindowRow.wrapper Rows.fnExactGoodWindowRow.mainSum := by unfold Func.isWrapper; first | (rw [if_pos (by decide +kernel)]; kernel_rfl) | (rw [if_neg (by decide +kernel)]; exact ⟨rfl, rfl⟩)
theorem gwn_holds : Rows.FnExactGoodWindowSaid :=
  OpenClaim.holds_of_wide 3 Try.f3 rfl rfl rfl rfl rfl rfl rfl ⟨rfl, rfl, rfl, rfl, rfl⟩ rfl rfl rfl rfl rfl gwn_holds_named Try.func3 gwn_holds_closed gwn_holds_inst gwn_holds_wrap
    (fun os started H enc _ => gwn_holds_lifted os started H enc)
#print axioms gwn_holds
end Go.Proofs.Ytakhgfecjghkpaa

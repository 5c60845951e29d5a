/- The law FnExactCropOf returns true for every argument and leaves it as it was: the given statement FnExactCropOfSaid. No condition. -/
import Derived.Test.YtakhgfecjghkpaaCrpLaw
import Derived.Test.YtakhgfecjghkpaaIo
import Derived.Test.YtakhgfecjghkpaaOpenWn
import Derived.Test.YtakhgfecjghkpaaOpenIn
namespace Go.Proofs.Ytakhgfecjghkpaa
open Go.ChangeShapes Go.WideShapes Go.ChangeAt Go.RowKit Go.Joins
set_option linter.unusedVariables false
set_option maxRecDepth 100000
set_option linter.unusedSimpArgs false

set_option maxRecDepth 100000 in
theorem crp_holds_lifted (os : Os) (started : os.Started) (H : Type) (enc : TypeId × Value → H) :
    ReturnsInHanded {} Try.checked os 6 .any (Rows.fnExactCropOfSpec.pre6 enc Try.prog Try.f6 Rows.fnExactCropOfRow.domain false) (Rows.fnExactCropOfSpec.post enc Try.prog Try.f6 false true false false) := by
  refine returnsInHanded_of_change (C := Try.checked) own started (by kernel_rfl) Try.func6
    (ChangeSpec.witness6 (enc := enc) (C := Try.checked) false ⟨#[], #[.agg #[.int .i64 0, .int .i64 0, .int .i64 0, .int .i64 0], .slice none 0 0, .agg #[.int .i64 0, .int .i64 0, .int .i64 0, .int .i64 0]], []⟩ 8 (by kernel_rfl) (by kernel_rfl) (by kernel_rfl) (by kernel_rfl)) ?_
  intro W base args ds gs before hval0 hW hcnd _
  have hval : ∀ (j : Nat) t v, Try.f6.params[j]? = some t → args[j]? = some v → Value.okWide Try.prog W .any base t v := hval0
  have hW' := hW
  obtain ⟨p, q, hA0, hV, rfl, hfz, hnd⟩ := hW
  have hA : DataW.TrodAll enc Try.prog W 0 (fun _ => true) true Try.f6.params.toList args.toList ds p := hA0
  rw [Try.params6] at hA hval
  obtain ⟨v0, vs0, d0, ds0, p0, q0, hargs, rfl, rfl, h0, r0⟩ := trodAll_cons hA
  obtain ⟨v1, vs1, d1, ds1, p1, q1, rfl, rfl, rfl, h1, r1⟩ := trodAll_cons r0
  obtain ⟨v2, vs2, d2, ds2, p2, q2, rfl, rfl, rfl, h2, r2⟩ := trodAll_cons r1
  obtain ⟨rfl, rfl, rfl⟩ := trodAll_nil r2
  obtain rfl : args = #[v0, v1, v2] := by cases args; simp_all
  obtain ⟨rfl, rfl⟩ := trodVars_none hV
  have lt0 : ∀ x ∈ p0, x.block < W.heap.size := by obtain ⟨m, hm⟩ := h0; exact DataW.trod_lt m _ _ _ hm
  obtain ⟨t0, rfl⟩ := open_W (hval 0 23 v0 rfl rfl) h0
  have lt1 : ∀ x ∈ p1, x.block < W.heap.size := by obtain ⟨m, hm⟩ := h1; exact DataW.trod_lt m _ _ _ hm
  obtain ⟨a1, n1, c1, xs1, rfl, sl1, hn1, hm1⟩ := open_IS (hval 1 28 v1 rfl rfl) h1
  have lt2 : ∀ x ∈ p2, x.block < W.heap.size := by obtain ⟨m, hm⟩ := h2; exact DataW.trod_lt m _ _ _ hm
  obtain ⟨t2, rfl⟩ := open_W (hval 2 23 v2 rfl rfl) h2
  clear hA0 hval0
  refine (lawCropOf_walk t0 a1 n1 c1 xs1 t2 W sl1 hn1 hm1).mono fun e W' ⟨he, bel⟩ => ?_
  subst he
  exact ⟨_, rfl, _, _, _, [], _, [], hW', trodAll_mk1 (shut_bool Try.underlying4 _), (trodAll_cons_mk (Below.trod laidOut (by kernel_rfl) (of_decide_eq_true (by kernel_rfl)) h0 bel lt0) (trodAll_cons_mk (Below.trod laidOut (by kernel_rfl) (of_decide_eq_true (by kernel_rfl)) h1 bel lt1) (trodAll_cons_mk (Below.trod laidOut (by kernel_rfl) (of_decide_eq_true (by kernel_rfl)) h2 bel lt2) trodAll_mk0))), rfl, bel.frame _, fun h => by cases h⟩

theorem crp_holds_c0 : (Rows.fnExactCropOfRow.wf (OpenSpec.ofChange Rows.fnExactCropOfSpec)) = true := by kernel_rfl
theorem crp_holds_c1 : (laidOutB Try.pinned.checked.prog) = true := by kernel_rfl
theorem crp_holds_c2 : (mapsRowed Try.pinned.checked.prog) = true := by kernel_rfl
theorem crp_holds_c3 : (Try.f6.params.all (Try.pinned.checked.prog.readableRec ·)) = true := by kernel_rfl
theorem crp_holds_c4 : (namedTie Try.pinned.checked.prog Rows.fnExactCropOfRow.named Rows.fnExactCropOfSpec.vars) = true := by kernel_rfl
theorem crp_holds_c5 : (Rows.fnExactCropOfRow.stops == []) = true := by kernel_rfl
theorem crp_holds_c6 : (Try.pinned.checked.prog.stops == []) = true := by kernel_rfl
theorem crp_holds_c7 : (Rows.fnExactCropOfRow.knobs == []) = true := by kernel_rfl
theorem crp_holds_c8 : (Try.pinned.checked.prog.stopKnobs == []) = true := by kernel_rfl
theorem crp_holds_c9 : (Rows.fnExactCropOfRow.inPlace == Try.pinned.checked.prog.inPlace 6) = true := by kernel_rfl
theorem crp_holds_c10 : (Rows.fnExactCropOfRow.unfollowed == Try.pinned.checked.prog.unfollowed 6) = true := by kernel_rfl
theorem crp_holds_c11 : (Rows.fnExactCropOfRow.recurses == Try.pinned.checked.prog.recurses 6) = true := by kernel_rfl
theorem crp_holds_c12 : (Rows.fnExactCropOfRow.named == Try.pinned.checked.prog.varsNamed 6) = true := by kernel_rfl
theorem crp_holds_c13 : (Rows.fnExactCropOfRow.maps == (Try.f6.params.toList ++ Rows.fnExactCropOfSpec.plain.varTypes Try.pinned.checked.prog).any (Try.pinned.checked.prog.mapsRec ·)) = true := by kernel_rfl
theorem crp_holds_c14 : (Rows.fnExactCropOfRow.ifaces == (Try.f6.params.toList ++ Rows.fnExactCropOfSpec.plain.varTypes Try.pinned.checked.prog).any (Try.pinned.checked.prog.ifacesRec ·)) = true := by kernel_rfl
theorem crp_holds_c15 : (Rows.fnExactCropOfRow.mapsOut == Try.pinned.checked.prog.mapsAmong Try.f6.resultTypes.toList) = true := by kernel_rfl
theorem crp_holds_c16 : (Rows.fnExactCropOfRow.loops == (Try.f6.params.toList ++ Rows.fnExactCropOfSpec.plain.varTypes Try.pinned.checked.prog).any (Try.pinned.checked.prog.loopsFrom ·)) = true := by kernel_rfl
theorem crp_holds_c17 : (Rows.fnExactCropOfRow.wideKeys == (Try.f6.params.toList ++ Rows.fnExactCropOfSpec.plain.varTypes Try.pinned.checked.prog ++ Try.f6.resultTypes.toList).any (Try.pinned.checked.prog.wideKeysFrom ·)) = true := by kernel_rfl
theorem crp_holds_c18 : (Rows.fnExactCropOfSpec.vars.all (Try.pinned.checked.prog.varReadable ·)) = true := by kernel_rfl
theorem crp_holds_c19 : (Try.f6.resultTypes.all (fun t => Try.pinned.checked.prog.readableRec t && decide (t < Try.pinned.checked.prog.types.size))) = true := by kernel_rfl
theorem crp_holds_c20 : (Rows.fnExactCropOfRow.ifacesOut == Try.f6.resultTypes.toList.any (Try.pinned.checked.prog.ifacesRec ·)) = true := by kernel_rfl
theorem crp_holds_c21 : (Rows.fnExactCropOfRow.loopsOut == Try.f6.resultTypes.toList.any (Try.pinned.checked.prog.loopsFrom ·)) = true := by kernel_rfl
theorem crp_holds_c22 : (Rows.fnExactCropOfRow.plainKeys == Try.pinned.checked.prog.plainKeys) = true := by kernel_rfl
theorem crp_holds_c23 : (Rows.fnExactCropOfRow.shortTexts.isNone) = true := by kernel_rfl
theorem crp_holds_c24 : (Try.pinned.checked.prog.stopsHeard) = true := by kernel_rfl
theorem crp_holds_c25 : (Try.pinned.checked.prog.mayEnter) = true := io_enter
theorem crp_holds_c26 : (Rows.fnExactCropOfRow.lifted == Try.pinned.checked.prog.liftsFinal) = true := by rw [io_lifts]; kernel_rfl
theorem crp_holds_c27 : (Try.pinned.checked.prog.make == some Rows.fnExactCropOfRow.make) = true := by rw [io_make]; kernel_rfl
theorem crp_holds_c28 : (Rows.fnExactCropOfRow.kinds == (if Rows.fnExactCropOfRow.domain.isEmpty then [] else Try.f6.params.toList.map fun t => match Try.pinned.checked.prog.underlying t with | some (.int k) => some k | _ => none)) = true := by kernel_rfl
theorem crp_holds_c29 : (Rows.fnExactCropOfRow.pinned == Rows.fnExactCropOfRow.pinnedBy) = true := by kernel_rfl
theorem crp_holds_c30 : (Rows.fnExactCropOfRow.veiled == (Try.f6.params.toList ++ Rows.fnExactCropOfSpec.plain.varTypes Try.pinned.checked.prog ++ Try.f6.resultTypes.toList).any (Try.pinned.checked.prog.veiledRec ·)) = true := by kernel_rfl
theorem crp_holds_c31 : (Rows.fnExactCropOfRow.veiledFits Try.pinned.checked.prog Try.f6.params.toList (Try.f6.params.toList ++ Rows.fnExactCropOfSpec.plain.varTypes Try.pinned.checked.prog ++ Try.f6.resultTypes.toList)) = true := by kernel_rfl
theorem crp_holds_and {a b : Bool} (h : a = true) (k : b = true) : (a && b) = true := by rw [h, k]; rfl
theorem crp_holds_closed : joinedFacts Try.pinned.checked.prog 6 Try.f6 Rows.fnExactCropOfSpec Rows.fnExactCropOfRow = true := (crp_holds_and (crp_holds_and (crp_holds_and (crp_holds_and (crp_holds_and (crp_holds_and (crp_holds_and (crp_holds_and (crp_holds_and (crp_holds_and (crp_holds_and (crp_holds_and (crp_holds_and (crp_holds_and (crp_holds_and (crp_holds_and (crp_holds_and (crp_holds_and (crp_holds_and (crp_holds_and (crp_holds_and (crp_holds_and (crp_holds_and (crp_holds_and (crp_holds_and (crp_holds_and (crp_holds_and (crp_holds_and (crp_holds_and (crp_holds_and (crp_holds_and crp_holds_c0 crp_holds_c1) crp_holds_c2) crp_holds_c3) crp_holds_c4) crp_holds_c5) crp_holds_c6) crp_holds_c7) crp_holds_c8) crp_holds_c9) crp_holds_c10) crp_holds_c11) crp_holds_c12) crp_holds_c13) crp_holds_c14) crp_holds_c15) crp_holds_c16) crp_holds_c17) crp_holds_c18) crp_holds_c19) crp_holds_c20) crp_holds_c21) crp_holds_c22) crp_holds_c23) crp_holds_c24) crp_holds_c25) crp_holds_c26) crp_holds_c27) crp_holds_c28) crp_holds_c29) crp_holds_c30) crp_holds_c31)
theorem crp_holds_named : Try.pinned.checked.prog.funcNamed Rows.fnExactCropOfRow.func = some 6 := by kernel_rfl
theorem crp_holds_inst : Try.f6.isInstance Try.pinned.checked.prog Rows.fnExactCropOfRow.origin Rows.fnExactCropOfRow.targs := of_decide_eq_true (by kernel_rfl)
theorem crp_holds_wrap : Try.f6.isWrapper Try.pinned.checked.prog Rows.fnExactCropOfRow.wrapper Rows.fnExactCropOfRow.mainSum := by unfold Func.isWrapper; first | (rw [if_pos (by decide +kernel)]; kernel_rfl) | (rw [if_neg (by decide +kernel)]; exact ⟨rfl, rfl⟩)
theorem crp_holds : Rows.FnExactCropOfSaid :=
  OpenClaim.holds_of_wide 6 Try.f6 rfl rfl rfl rfl rfl rfl rfl ⟨rfl, rfl, rfl, rfl, rfl⟩ rfl rfl rfl rfl rfl crp_holds_named Try.func6 crp_holds_closed crp_holds_inst crp_holds_wrap
    (fun os started H enc _ => crp_holds_lifted os started H enc)
#print axioms crp_holds
end Go.Proofs.Ytakhgfecjghkpaa

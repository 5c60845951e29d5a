/- The law FnExactSees returns true for every argument and leaves it as it was: the given statement FnExactSeesSaid. No condition. -/
import Derived.Test.YtblhjeepelgdaaaSeeLaw
import Derived.Test.YtblhjeepelgdaaaIo
import Derived.Test.YtblhjeepelgdaaaOpenPt
import Derived.Test.YtblhjeepelgdaaaOpenI
import Derived.Test.YtblhjeepelgdaaaOpenTr
namespace Go.Proofs.Ytblhjeepelgdaaa
open Go.ChangeShapes Go.WideShapes Go.ChangeAt Go.RowKit Go.Joins
set_option linter.unusedVariables false
set_option maxRecDepth 100000
set_option linter.unusedSimpArgs false

set_option maxRecDepth 100000 in
theorem see_holds_lifted (os : Os) (started : os.Started) (H : Type) (enc : TypeId × Value → H) :
    ReturnsInHanded {} Try.checked os 9 .any (Rows.fnExactSeesSpec.pre6 enc Try.prog Try.f9 Rows.fnExactSeesRow.domain false) (Rows.fnExactSeesSpec.post enc Try.prog Try.f9 false true false false) := by
  refine returnsInHanded_of_change (C := Try.checked) own started (by kernel_rfl) Try.func9
    (ChangeSpec.witness6 (enc := enc) (C := Try.checked) false ⟨#[], #[.slice none 0 0, .int .i64 0, .agg #[.int .i64 0, .int .i64 0, .int .i64 0]], []⟩ 8 (by kernel_rfl) (by kernel_rfl) (by kernel_rfl) (by kernel_rfl)) ?_
  intro W base args ds gs before hval0 hW hcnd _
  have hval : ∀ (j : Nat) t v, Try.f9.params[j]? = some t → args[j]? = some v → Value.okWide Try.prog W .any base t v := hval0
  have hW' := hW
  obtain ⟨p, q, hA0, hV, rfl, hfz, hnd⟩ := hW
  have hA : DataW.TrodAll enc Try.prog W 0 (fun _ => true) true Try.f9.params.toList args.toList ds p := hA0
  rw [Try.params9] at hA hval
  obtain ⟨v0, vs0, d0, ds0, p0, q0, hargs, rfl, rfl, h0, r0⟩ := trodAll_cons hA
  obtain ⟨v1, vs1, d1, ds1, p1, q1, rfl, rfl, rfl, h1, r1⟩ := trodAll_cons r0
  obtain ⟨v2, vs2, d2, ds2, p2, q2, rfl, rfl, rfl, h2, r2⟩ := trodAll_cons r1
  obtain ⟨rfl, rfl, rfl⟩ := trodAll_nil r2
  obtain rfl : args = #[v0, v1, v2] := by cases args; simp_all
  obtain ⟨rfl, rfl⟩ := trodVars_none hV
  have lt0 : ∀ x ∈ p0, x.block < W.heap.size := by obtain ⟨m, hm⟩ := h0; exact DataW.trod_lt m _ _ _ hm
  obtain ⟨a0, n0, c0, l0, rfl, sl0, hn0, hm0⟩ := open_TS (hval 0 39 v0 rfl rfl) h0
  obtain ⟨x1, rfl, rfl, rfl, w1⟩ := open_int Try.underlying3 (hval 1 3 v1 rfl rfl) h1
  have lt2 : ∀ x ∈ p2, x.block < W.heap.size := by obtain ⟨m, hm⟩ := h2; exact DataW.trod_lt m _ _ _ hm
  obtain ⟨t2, rfl⟩ := open_R (hval 2 53 v2 rfl rfl) h2
  clear hA0 hval0
  refine (lawSees_walk a0 n0 c0 l0 x1 t2 W sl0 hn0 hm0 (open_wf w1)).mono fun e W' ⟨he, bel⟩ => ?_
  subst he
  exact ⟨_, rfl, _, _, _, [], _, [], hW', trodAll_mk1 (shut_bool Try.underlying4 _), (trodAll_cons_mk (Below.trod laidOut (by kernel_rfl) (of_decide_eq_true (by kernel_rfl)) h0 bel lt0) (trodAll_cons_mk (shut_int Try.underlying3 w1) (trodAll_cons_mk (Below.trod laidOut (by kernel_rfl) (of_decide_eq_true (by kernel_rfl)) h2 bel lt2) trodAll_mk0))), rfl, bel.frame _, fun h => by cases h⟩

theorem see_holds_c0 : (Rows.fnExactSeesRow.wf (OpenSpec.ofChange Rows.fnExactSeesSpec)) = true := by kernel_rfl
theorem see_holds_c1 : (laidOutB Try.pinned.checked.prog) = true := by kernel_rfl
theorem see_holds_c2 : (mapsRowed Try.pinned.checked.prog) = true := by kernel_rfl
theorem see_holds_c3 : (Try.f9.params.all (Try.pinned.checked.prog.readableRec ·)) = true := by kernel_rfl
theorem see_holds_c4 : (namedTie Try.pinned.checked.prog Rows.fnExactSeesRow.named Rows.fnExactSeesSpec.vars) = true := by kernel_rfl
theorem see_holds_c5 : (Rows.fnExactSeesRow.stops == []) = true := by kernel_rfl
theorem see_holds_c6 : (Try.pinned.checked.prog.stops == []) = true := by kernel_rfl
theorem see_holds_c7 : (Rows.fnExactSeesRow.knobs == []) = true := by kernel_rfl
theorem see_holds_c8 : (Try.pinned.checked.prog.stopKnobs == []) = true := by kernel_rfl
theorem see_holds_c9 : (Rows.fnExactSeesRow.inPlace == Try.pinned.checked.prog.inPlace 9) = true := by kernel_rfl
theorem see_holds_c10 : (Rows.fnExactSeesRow.unfollowed == Try.pinned.checked.prog.unfollowed 9) = true := by kernel_rfl
theorem see_holds_c11 : (Rows.fnExactSeesRow.recurses == Try.pinned.checked.prog.recurses 9) = true := by kernel_rfl
theorem see_holds_c12 : (Rows.fnExactSeesRow.named == Try.pinned.checked.prog.varsNamed 9) = true := by kernel_rfl
theorem see_holds_c13 : (Rows.fnExactSeesRow.maps == (Try.f9.params.toList ++ Rows.fnExactSeesSpec.plain.varTypes Try.pinned.checked.prog).any (Try.pinned.checked.prog.mapsRec ·)) = true := by kernel_rfl
theorem see_holds_c14 : (Rows.fnExactSeesRow.ifaces == (Try.f9.params.toList ++ Rows.fnExactSeesSpec.plain.varTypes Try.pinned.checked.prog).any (Try.pinned.checked.prog.ifacesRec ·)) = true := by kernel_rfl
theorem see_holds_c15 : (Rows.fnExactSeesRow.mapsOut == Try.pinned.checked.prog.mapsAmong Try.f9.resultTypes.toList) = true := by kernel_rfl
theorem see_holds_c16 : (Rows.fnExactSeesRow.loops == (Try.f9.params.toList ++ Rows.fnExactSeesSpec.plain.varTypes Try.pinned.checked.prog).any (Try.pinned.checked.prog.loopsFrom ·)) = true := by kernel_rfl
theorem see_holds_c17 : (Rows.fnExactSeesRow.wideKeys == (Try.f9.params.toList ++ Rows.fnExactSeesSpec.plain.varTypes Try.pinned.checked.prog ++ Try.f9.resultTypes.toList).any (Try.pinned.checked.prog.wideKeysFrom ·)) = true := by kernel_rfl
theorem see_holds_c18 : (Rows.fnExactSeesSpec.vars.all (Try.pinned.checked.prog.varReadable ·)) = true := by kernel_rfl
theorem see_holds_c19 : (Try.f9.resultTypes.all (fun t => Try.pinned.checked.prog.readableRec t && decide (t < Try.pinned.checked.prog.types.size))) = true := by kernel_rfl
theorem see_holds_c20 : (Rows.fnExactSeesRow.ifacesOut == Try.f9.resultTypes.toList.any (Try.pinned.checked.prog.ifacesRec ·)) = true := by kernel_rfl
theorem see_holds_c21 : (Rows.fnExactSeesRow.loopsOut == Try.f9.resultTypes.toList.any (Try.pinned.checked.prog.loopsFrom ·)) = true := by kernel_rfl
theorem see_holds_c22 : (Rows.fnExactSeesRow.plainKeys == Try.pinned.checked.prog.plainKeys) = true := by kernel_rfl
theorem see_holds_c23 : (Rows.fnExactSeesRow.shortTexts.isNone) = true := by kernel_rfl
theorem see_holds_c24 : (Try.pinned.checked.prog.stopsHeard) = true := by kernel_rfl
theorem see_holds_c25 : (Try.pinned.checked.prog.mayEnter) = true := io_enter
theorem see_holds_c26 : (Rows.fnExactSeesRow.lifted == Try.pinned.checked.prog.liftsFinal) = true := by rw [io_lifts]; kernel_rfl
theorem see_holds_c27 : (Try.pinned.checked.prog.make == some Rows.fnExactSeesRow.make) = true := by rw [io_make]; kernel_rfl
theorem see_holds_c28 : (Rows.fnExactSeesRow.kinds == (if Rows.fnExactSeesRow.domain.isEmpty then [] else Try.f9.params.toList.map fun t => match Try.pinned.checked.prog.underlying t with | some (.int k) => some k | _ => none)) = true := by kernel_rfl
theorem see_holds_c29 : (Rows.fnExactSeesRow.pinned == Rows.fnExactSeesRow.pinnedBy) = true := by kernel_rfl
theorem see_holds_c30 : (Rows.fnExactSeesRow.veiled == (Try.f9.params.toList ++ Rows.fnExactSeesSpec.plain.varTypes Try.pinned.checked.prog ++ Try.f9.resultTypes.toList).any (Try.pinned.checked.prog.veiledRec ·)) = true := by kernel_rfl
theorem see_holds_c31 : (Rows.fnExactSeesRow.veiledFits Try.pinned.checked.prog Try.f9.params.toList (Try.f9.params.toList ++ Rows.fnExactSeesSpec.plain.varTypes Try.pinned.checked.prog ++ Try.f9.resultTypes.toList)) = true := by kernel_rfl
theorem see_holds_and {a b : Bool} (h : a = true) (k : b = true) : (a && b) = true := by rw [h, k]; rfl
theorem see_holds_closed : joinedFacts Try.pinned.checked.prog 9 Try.f9 Rows.fnExactSeesSpec Rows.fnExactSeesRow = true := (see_holds_and (see_holds_and (see_holds_and (see_holds_and (see_holds_and (see_holds_and (see_holds_and (see_holds_and (see_holds_and (see_holds_and (see_holds_and (see_holds_and (see_holds_and (see_holds_and (see_holds_and (see_holds_and (see_holds_and (see_holds_and (see_holds_and (see_holds_and (see_holds_and (see_holds_and (see_holds_and (see_holds_and (see_holds_and (see_holds_and (see_holds_and (see_holds_and (see_holds_and (see_holds_and (see_holds_and see_holds_c0 see_holds_c1) see_holds_c2) see_holds_c3) see_holds_c4) see_holds_c5) see_holds_c6) see_holds_c7) see_holds_c8) see_holds_c9) see_holds_c10) see_holds_c11) see_holds_c12) see_holds_c13) see_holds_c14) see_holds_c15) see_holds_c16) see_holds_c17) see_holds_c18) see_holds_c19) see_holds_c20) see_holds_c21) see_holds_c22) see_holds_c23) see_holds_c24) see_holds_c25) see_holds_c26) see_holds_c27) see_holds_c28) see_holds_c29) see_holds_c30) see_holds_c31)
theorem see_holds_named : Try.pinned.checked.prog.funcNamed Rows.fnExactSeesRow.func = some 9 := by kernel_rfl
theorem see_holds_inst : Try.f9.isInstance Try.pinned.checked.prog Rows.fnExactSeesRow.origin Rows.fnExactSeesRow.targs := of_decide_eq_true (by kernel_rfl)
theorem see_holds_wrap : Try.f9.isWrapper Try.pinned.checked.prog Rows.fnExactSeesRow.wrapper Rows.fnExactSeesRow.mainSum := by unfold Func.isWrapper; first | (rw [if_pos (by decide +kernel)]; kernel_rfl) | (rw [if_neg (by decide +kernel)]; exact ⟨rfl, rfl⟩)
theorem see_holds : Rows.FnExactSeesSaid :=
  OpenClaim.holds_of_wide 9 Try.f9 rfl rfl rfl rfl rfl rfl rfl ⟨rfl, rfl, rfl, rfl, rfl⟩ rfl rfl rfl rfl rfl see_holds_named Try.func9 see_holds_closed see_holds_inst see_holds_wrap
    (fun os started H enc _ => see_holds_lifted os started H enc)
#print axioms see_holds
end Go.Proofs.Ytblhjeepelgdaaa

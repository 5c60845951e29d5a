/- The law FnExactMovePts returns true for every argument and leaves it as it was: the given statement FnExactMovePtsSaid. No condition. -/
import Derived.Test.YtpchoiaombigjaaMovLaw
import Derived.Test.YtpchoiaombigjaaIo
import Derived.Test.YtpchoiaombigjaaOpenPt
namespace Go.Proofs.Ytpchoiaombigjaa
open Go.ChangeShapes Go.WideShapes Go.ChangeAt Go.RowKit Go.Joins
set_option linter.unusedVariables false
set_option maxRecDepth 100000
set_option linter.unusedSimpArgs false

set_option maxRecDepth 100000 in
theorem mov_holds_lifted (os : Os) (started : os.Started) (H : Type) (enc : TypeId × Value → H) :
    ReturnsInHanded {} Try.checked os 15 .any (Rows.fnExactMovePtsSpec.pre6 enc Try.prog Try.f15 Rows.fnExactMovePtsRow.domain false) (Rows.fnExactMovePtsSpec.post enc Try.prog Try.f15 false true false false) := by
  refine returnsInHanded_of_change (C := Try.checked) own started (by kernel_rfl) Try.func15
    (ChangeSpec.witness6 (enc := enc) (C := Try.checked) false ⟨#[], #[.slice none 0 0, .agg #[.int .i64 0, .int .i64 0]], []⟩ 8 (by kernel_rfl) (by kernel_rfl) (by kernel_rfl) (by kernel_rfl)) ?_
  intro W base args ds gs before hval0 hW hcnd _
  have hval : ∀ (j : Nat) t v, Try.f15.params[j]? = some t → args[j]? = some v → Value.okWide Try.prog W .any base t v := hval0
  have hW' := hW
  obtain ⟨p, q, hA0, hV, rfl, hfz, hnd⟩ := hW
  have hA : DataW.TrodAll enc Try.prog W 0 (fun _ => true) true Try.f15.params.toList args.toList ds p := hA0
  rw [Try.params15] at hA hval
  obtain ⟨v0, vs0, d0, ds0, p0, q0, hargs, rfl, rfl, h0, r0⟩ := trodAll_cons hA
  obtain ⟨v1, vs1, d1, ds1, p1, q1, rfl, rfl, rfl, h1, r1⟩ := trodAll_cons r0
  obtain ⟨rfl, rfl, rfl⟩ := trodAll_nil r1
  obtain rfl : args = #[v0, v1] := by cases args; simp_all
  obtain ⟨rfl, rfl⟩ := trodVars_none hV
  have lt0 : ∀ x ∈ p0, x.block < W.heap.size := by obtain ⟨m, hm⟩ := h0; exact DataW.trod_lt m _ _ _ hm
  obtain ⟨a0, n0, c0, l0, rfl, sl0, hn0, hm0⟩ := open_TS (hval 0 57 v0 rfl rfl) h0
  have lt1 : ∀ x ∈ p1, x.block < W.heap.size := by obtain ⟨m, hm⟩ := h1; exact DataW.trod_lt m _ _ _ hm
  obtain ⟨t1, rfl⟩ := open_T (hval 1 52 v1 rfl rfl) h1
  clear hA0 hval0
  refine (lawMovePts_walk a0 n0 c0 l0 t1 W sl0 hn0 hm0).mono fun e W' ⟨he, bel⟩ => ?_
  subst he
  exact ⟨_, rfl, _, _, _, [], _, [], hW', trodAll_mk1 (shut_bool Try.underlying4 _), (trodAll_cons_mk (Below.trod laidOut (by kernel_rfl) (of_decide_eq_true (by kernel_rfl)) h0 bel lt0) (trodAll_cons_mk (Below.trod laidOut (by kernel_rfl) (of_decide_eq_true (by kernel_rfl)) h1 bel lt1) trodAll_mk0)), rfl, bel.frame _, fun h => by cases h⟩

theorem mov_holds_c0 : (Rows.fnExactMovePtsRow.wf (OpenSpec.ofChange Rows.fnExactMovePtsSpec)) = true := by kernel_rfl
theorem mov_holds_c1 : (laidOutB Try.pinned.checked.prog) = true := by kernel_rfl
theorem mov_holds_c2 : (mapsRowed Try.pinned.checked.prog) = true := by kernel_rfl
theorem mov_holds_c3 : (Try.f15.params.all (Try.pinned.checked.prog.readableRec ·)) = true := by kernel_rfl
theorem mov_holds_c4 : (namedTie Try.pinned.checked.prog Rows.fnExactMovePtsRow.named Rows.fnExactMovePtsSpec.vars) = true := by kernel_rfl
theorem mov_holds_c5 : (Rows.fnExactMovePtsRow.stops == []) = true := by kernel_rfl
theorem mov_holds_c6 : (Try.pinned.checked.prog.stops == []) = true := by kernel_rfl
theorem mov_holds_c7 : (Rows.fnExactMovePtsRow.knobs == []) = true := by kernel_rfl
theorem mov_holds_c8 : (Try.pinned.checked.prog.stopKnobs == []) = true := by kernel_rfl
theorem mov_holds_c9 : (Rows.fnExactMovePtsRow.inPlace == Try.pinned.checked.prog.inPlace 15) = true := by kernel_rfl
theorem mov_holds_c10 : (Rows.fnExactMovePtsRow.unfollowed == Try.pinned.checked.prog.unfollowed 15) = true := by kernel_rfl
theorem mov_holds_c11 : (Rows.fnExactMovePtsRow.recurses == Try.pinned.checked.prog.recurses 15) = true := by kernel_rfl
theorem mov_holds_c12 : (Rows.fnExactMovePtsRow.named == Try.pinned.checked.prog.varsNamed 15) = true := by kernel_rfl
theorem mov_holds_c13 : (Rows.fnExactMovePtsRow.maps == (Try.f15.params.toList ++ Rows.fnExactMovePtsSpec.plain.varTypes Try.pinned.checked.prog).any (Try.pinned.checked.prog.mapsRec ·)) = true := by kernel_rfl
theorem mov_holds_c14 : (Rows.fnExactMovePtsRow.ifaces == (Try.f15.params.toList ++ Rows.fnExactMovePtsSpec.plain.varTypes Try.pinned.checked.prog).any (Try.pinned.checked.prog.ifacesRec ·)) = true := by kernel_rfl
theorem mov_holds_c15 : (Rows.fnExactMovePtsRow.mapsOut == Try.pinned.checked.prog.mapsAmong Try.f15.resultTypes.toList) = true := by kernel_rfl
theorem mov_holds_c16 : (Rows.fnExactMovePtsRow.loops == (Try.f15.params.toList ++ Rows.fnExactMovePtsSpec.plain.varTypes Try.pinned.checked.prog).any (Try.pinned.checked.prog.loopsFrom ·)) = true := by kernel_rfl
theorem mov_holds_c17 : (Rows.fnExactMovePtsRow.wideKeys == (Try.f15.params.toList ++ Rows.fnExactMovePtsSpec.plain.varTypes Try.pinned.checked.prog ++ Try.f15.resultTypes.toList).any (Try.pinned.checked.prog.wideKeysFrom ·)) = true := by kernel_rfl
theorem mov_holds_c18 : (Rows.fnExactMovePtsSpec.vars.all (Try.pinned.checked.prog.varReadable ·)) = true := by kernel_rfl
theorem mov_holds_c19 : (Try.f15.resultTypes.all (fun t => Try.pinned.checked.prog.readableRec t && decide (t < Try.pinned.checked.prog.types.size))) = true := by kernel_rfl
theorem mov_holds_c20 : (Rows.fnExactMovePtsRow.ifacesOut == Try.f15.resultTypes.toList.any (Try.pinned.checked.prog.ifacesRec ·)) = true := by kernel_rfl
theorem mov_holds_c21 : (Rows.fnExactMovePtsRow.loopsOut == Try.f15.resultTypes.toList.any (Try.pinned.checked.prog.loopsFrom ·)) = true := by kernel_rfl
theorem mov_holds_c22 : (Rows.fnExactMovePtsRow.plainKeys == Try.pinned.checked.prog.plainKeys) = true := by kernel_rfl
theorem mov_holds_c23 : (Rows.fnExactMovePtsRow.shortTexts.isNone) = true := by kernel_rfl
theorem mov_holds_c24 : (Try.pinned.checked.prog.stopsHeard) = true := by kernel_rfl
theorem mov_holds_c25 : (Try.pinned.checked.prog.mayEnter) = true := io_enter
theorem mov_holds_c26 : (Rows.fnExactMovePtsRow.lifted == Try.pinned.checked.prog.liftsFinal) = true := by rw [io_lifts]; kernel_rfl
theorem mov_holds_c27 : (Try.pinned.checked.prog.make == some Rows.fnExactMovePtsRow.make) = true := by rw [io_make]; kernel_rfl
theorem mov_holds_c28 : (Rows.fnExactMovePtsRow.kinds == (if Rows.fnExactMovePtsRow.domain.isEmpty then [] else Try.f15.params.toList.map fun t => match Try.pinned.checked.prog.underlying t with | some (.int k) => some k | _ => none)) = true := by kernel_rfl
theorem mov_holds_c29 : (Rows.fnExactMovePtsRow.pinned == Rows.fnExactMovePtsRow.pinnedBy) = true := by kernel_rfl
theorem mov_holds_c30 : (Rows.fnExactMovePtsRow.veiled == (Try.f15.params.toList ++ Rows.fnExactMovePtsSpec.plain.varTypes Try.pinned.checked.prog ++ Try.f15.resultTypes.toList).any (Try.pinned.checked.prog.veiledRec ·)) = true := by kernel_rfl
theorem mov_holds_c31 : (Rows.fnExactMovePtsRow.veiledFits Try.pinned.checked.prog Try.f15.params.toList (Try.f15.params.toList ++ Rows.fnExactMovePtsSpec.plain.varTypes Try.pinned.checked.prog ++ Try.f15.resultTypes.toList)) = true := by kernel_rfl
theorem mov_holds_and {a b : Bool} (h : a = true) (k : b = true) : (a && b) = true := by rw [h, k]; rfl
theorem mov_holds_closed : joinedFacts Try.pinned.checked.prog 15 Try.f15 Rows.fnExactMovePtsSpec Rows.fnExactMovePtsRow = true := (mov_holds_and (mov_holds_and (mov_holds_and (mov_holds_and (mov_holds_and (mov_holds_and (mov_holds_and (mov_holds_and (mov_holds_and (mov_holds_and (mov_holds_and (mov_holds_and (mov_holds_and (mov_holds_and (mov_holds_and (mov_holds_and (mov_holds_and (mov_holds_and (mov_holds_and (mov_holds_and (mov_holds_and (mov_holds_and (mov_holds_and (mov_holds_and (mov_holds_and (mov_holds_and (mov_holds_and (mov_holds_and (mov_holds_and (mov_holds_and (mov_holds_and mov_holds_c0 mov_holds_c1) mov_holds_c2) mov_holds_c3) mov_holds_c4) mov_holds_c5) mov_holds_c6) mov_holds_c7) mov_holds_c8) mov_holds_c9) mov_holds_c10) mov_holds_c11) mov_holds_c12) mov_holds_c13) mov_holds_c14) mov_holds_c15) mov_holds_c16) mov_holds_c17) mov_holds_c18) mov_holds_c19) mov_holds_c20) mov_holds_c21) mov_holds_c22) mov_holds_c23) mov_holds_c24) mov_holds_c25) mov_holds_c26) mov_holds_c27) mov_holds_c28) mov_holds_c29) mov_holds_c30) mov_holds_c31)
theorem mov_holds_named : Try.pinned.checked.prog.funcNamed Rows.fnExactMovePtsRow.func = some 15 := by kernel_rfl
theorem mov_holds_inst : Try.f15.isInstance Try.pinned.checked.prog Rows.fnExactMovePtsRow.origin Rows.fnExactMovePtsRow.targs := of_decide_eq_true (by kernel_rfl)
theorem mov_holds_wrap : Try.f15.isWrapper Try.pinned.checked.prog Rows.fnExactMovePtsRow.wrapper Rows.fnExactMovePtsRow.mainSum := by unfold Func.isWrapper; first | (rw [if_pos (by decide +kernel)]; kernel_rfl) | (rw [if_neg (by decide +kernel)]; exact ⟨rfl, rfl⟩)
theorem mov_holds : Rows.FnExactMovePtsSaid :=
  OpenClaim.holds_of_wide 15 Try.f15 rfl rfl rfl rfl rfl rfl rfl ⟨rfl, rfl, rfl, rfl, rfl⟩ rfl rfl rfl rfl rfl mov_holds_named Try.func15 mov_holds_closed mov_holds_inst mov_holds_wrap
    (fun os started H enc _ => mov_holds_lifted os started H enc)
#print axioms mov_holds
end Go.Proofs.Ytpchoiaombigjaa

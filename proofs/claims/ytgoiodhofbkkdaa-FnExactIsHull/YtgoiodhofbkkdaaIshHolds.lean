/- The law FnExactIsHull returns true for every argument and leaves it as it was: the given statement FnExactIsHullSaid. No condition. -/
import Derived.Test.YtgoiodhofbkkdaaIshLaw
import Derived.Test.YtgoiodhofbkkdaaIo
import Derived.Test.YtgoiodhofbkkdaaOpenPt
namespace Go.Proofs.Ytgoiodhofbkkdaa
open Go.ChangeShapes Go.WideShapes Go.ChangeAt Go.RowKit Go.Joins
set_option linter.unusedVariables false
set_option maxRecDepth 100000
set_option linter.unusedSimpArgs false

set_option maxRecDepth 100000 in
theorem ish_holds_lifted (os : Os) (started : os.Started) (H : Type) (enc : TypeId × Value → H) :
    ReturnsInHanded {} Try.checked os 6 .any (Rows.fnExactIsHullSpec.pre6 enc Try.prog Try.f6 Rows.fnExactIsHullRow.domain false) (Rows.fnExactIsHullSpec.post enc Try.prog Try.f6 false true false false) := by
  refine returnsInHanded_of_change (C := Try.checked) own started (by kernel_rfl) Try.func6
    (ChangeSpec.witness6 (enc := enc) (C := Try.checked) false ⟨#[], #[.slice none 0 0, .slice none 0 0], []⟩ 8 (by kernel_rfl) (by kernel_rfl) (by kernel_rfl) (by kernel_rfl)) ?_
  intro W base args ds gs before hval0 hW hcnd _
  have hval : ∀ (j : Nat) t v, Try.f6.params[j]? = some t → args[j]? = some v → Value.okWide Try.prog W .any base t v := hval0
  have hW' := hW
  obtain ⟨p, q, hA0, hV, rfl, hfz, hnd⟩ := hW
  have hA : DataW.TrodAll enc Try.prog W 0 (fun _ => true) true Try.f6.params.toList args.toList ds p := hA0
  rw [Try.params6] at hA hval
  obtain ⟨v0, vs0, d0, ds0, p0, q0, hargs, rfl, rfl, h0, r0⟩ := trodAll_cons hA
  obtain ⟨v1, vs1, d1, ds1, p1, q1, rfl, rfl, rfl, h1, r1⟩ := trodAll_cons r0
  obtain ⟨rfl, rfl, rfl⟩ := trodAll_nil r1
  obtain rfl : args = #[v0, v1] := by cases args; simp_all
  obtain ⟨rfl, rfl⟩ := trodVars_none hV
  have lt0 : ∀ x ∈ p0, x.block < W.heap.size := by obtain ⟨m, hm⟩ := h0; exact DataW.trod_lt m _ _ _ hm
  obtain ⟨a0, n0, c0, l0, rfl, sl0, hn0, hm0⟩ := open_TS (hval 0 46 v0 rfl rfl) h0
  have lt1 : ∀ x ∈ p1, x.block < W.heap.size := by obtain ⟨m, hm⟩ := h1; exact DataW.trod_lt m _ _ _ hm
  obtain ⟨a1, n1, c1, l1, rfl, sl1, hn1, hm1⟩ := open_TS (hval 1 46 v1 rfl rfl) h1
  clear hA0 hval0
  refine (lawIsHull_walk a0 n0 c0 l0 a1 n1 c1 l1 W sl0 hn0 hm0 sl1 hn1 hm1).mono fun e W' ⟨he, bel⟩ => ?_
  subst he
  exact ⟨_, rfl, _, _, _, [], _, [], hW', trodAll_mk1 (shut_bool Try.underlying4 _), (trodAll_cons_mk (Below.trod laidOut (by kernel_rfl) (of_decide_eq_true (by kernel_rfl)) h0 bel lt0) (trodAll_cons_mk (Below.trod laidOut (by kernel_rfl) (of_decide_eq_true (by kernel_rfl)) h1 bel lt1) trodAll_mk0)), rfl, bel.frame _, fun h => by cases h⟩

theorem ish_holds_c0 : (Rows.fnExactIsHullRow.wf (OpenSpec.ofChange Rows.fnExactIsHullSpec)) = true := by kernel_rfl
theorem ish_holds_c1 : (laidOutB Try.pinned.checked.prog) = true := by kernel_rfl
theorem ish_holds_c2 : (mapsRowed Try.pinned.checked.prog) = true := by kernel_rfl
theorem ish_holds_c3 : (Try.f6.params.all (Try.pinned.checked.prog.readableRec ·)) = true := by kernel_rfl
theorem ish_holds_c4 : (namedTie Try.pinned.checked.prog Rows.fnExactIsHullRow.named Rows.fnExactIsHullSpec.vars) = true := by kernel_rfl
theorem ish_holds_c5 : (Rows.fnExactIsHullRow.stops == []) = true := by kernel_rfl
theorem ish_holds_c6 : (Try.pinned.checked.prog.stops == []) = true := by kernel_rfl
theorem ish_holds_c7 : (Rows.fnExactIsHullRow.knobs == []) = true := by kernel_rfl
theorem ish_holds_c8 : (Try.pinned.checked.prog.stopKnobs == []) = true := by kernel_rfl
theorem ish_holds_c9 : (Rows.fnExactIsHullRow.inPlace == Try.pinned.checked.prog.inPlace 6) = true := by kernel_rfl
theorem ish_holds_c10 : (Rows.fnExactIsHullRow.unfollowed == Try.pinned.checked.prog.unfollowed 6) = true := by kernel_rfl
theorem ish_holds_c11 : (Rows.fnExactIsHullRow.recurses == Try.pinned.checked.prog.recurses 6) = true := by kernel_rfl
theorem ish_holds_c12 : (Rows.fnExactIsHullRow.named == Try.pinned.checked.prog.varsNamed 6) = true := by kernel_rfl
theorem ish_holds_c13 : (Rows.fnExactIsHullRow.maps == (Try.f6.params.toList ++ Rows.fnExactIsHullSpec.plain.varTypes Try.pinned.checked.prog).any (Try.pinned.checked.prog.mapsRec ·)) = true := by kernel_rfl
theorem ish_holds_c14 : (Rows.fnExactIsHullRow.ifaces == (Try.f6.params.toList ++ Rows.fnExactIsHullSpec.plain.varTypes Try.pinned.checked.prog).any (Try.pinned.checked.prog.ifacesRec ·)) = true := by kernel_rfl
theorem ish_holds_c15 : (Rows.fnExactIsHullRow.mapsOut == Try.pinned.checked.prog.mapsAmong Try.f6.resultTypes.toList) = true := by kernel_rfl
theorem ish_holds_c16 : (Rows.fnExactIsHullRow.loops == (Try.f6.params.toList ++ Rows.fnExactIsHullSpec.plain.varTypes Try.pinned.checked.prog).any (Try.pinned.checked.prog.loopsFrom ·)) = true := by kernel_rfl
theorem ish_holds_c17 : (Rows.fnExactIsHullRow.wideKeys == (Try.f6.params.toList ++ Rows.fnExactIsHullSpec.plain.varTypes Try.pinned.checked.prog ++ Try.f6.resultTypes.toList).any (Try.pinned.checked.prog.wideKeysFrom ·)) = true := by kernel_rfl
theorem ish_holds_c18 : (Rows.fnExactIsHullSpec.vars.all (Try.pinned.checked.prog.varReadable ·)) = true := by kernel_rfl
theorem ish_holds_c19 : (Try.f6.resultTypes.all (fun t => Try.pinned.checked.prog.readableRec t && decide (t < Try.pinned.checked.prog.types.size))) = true := by kernel_rfl
theorem ish_holds_c20 : (Rows.fnExactIsHullRow.ifacesOut == Try.f6.resultTypes.toList.any (Try.pinned.checked.prog.ifacesRec ·)) = true := by kernel_rfl
theorem ish_holds_c21 : (Rows.fnExactIsHullRow.loopsOut == Try.f6.resultTypes.toList.any (Try.pinned.checked.prog.loopsFrom ·)) = true := by kernel_rfl
theorem ish_holds_c22 : (Rows.fnExactIsHullRow.plainKeys == Try.pinned.checked.prog.plainKeys) = true := by kernel_rfl
theorem ish_holds_c23 : (Rows.fnExactIsHullRow.shortTexts.isNone) = true := by kernel_rfl
theorem ish_holds_c24 : (Try.pinned.checked.prog.stopsHeard) = true := by kernel_rfl
theorem ish_holds_c25 : (Try.pinned.checked.prog.mayEnter) = true := io_enter
theorem ish_holds_c26 : (Rows.fnExactIsHullRow.lifted == Try.pinned.checked.prog.liftsFinal) = true := by rw [io_lifts]; kernel_rfl
theorem ish_holds_c27 : (Try.pinned.checked.prog.make == some Rows.fnExactIsHullRow.make) = true := by rw [io_make]; kernel_rfl
theorem ish_holds_c28 : (Rows.fnExactIsHullRow.kinds == (if Rows.fnExactIsHullRow.domain.isEmpty then [] else Try.f6.params.toList.map fun t => match Try.pinned.checked.prog.underlying t with | some (.int k) => some k | _ => none)) = true := by kernel_rfl
theorem ish_holds_c29 : (Rows.fnExactIsHullRow.pinned == Rows.fnExactIsHullRow.pinnedBy) = true := by kernel_rfl
theorem ish_holds_c30 : (Rows.fnExactIsHullRow.veiled == (Try.f6.params.toList ++ Rows.fnExactIsHullSpec.plain.varTypes Try.pinned.checked.prog ++ Try.f6.resultTypes.toList).any (Try.pinned.checked.prog.veiledRec ·)) = true := by kernel_rfl
theorem ish_holds_c31 : (Rows.fnExactIsHullRow.veiledFits Try.pinned.checked.prog Try.f6.params.toList (Try.f6.params.toList ++ Rows.fnExactIsHullSpec.plain.varTypes Try.pinned.checked.prog ++ Try.f6.resultTypes.toList)) = true := by kernel_rfl
theorem ish_holds_and {a b : Bool} (h : a = true) (k : b = true) : (a && b) = true := by rw [h, k]; rfl
theorem ish_holds_closed : joinedFacts Try.pinned.checked.prog 6 Try.f6 Rows.fnExactIsHullSpec Rows.fnExactIsHullRow = true := (ish_holds_and (ish_holds_and (ish_holds_and (ish_holds_and (ish_holds_and (ish_holds_and (ish_holds_and (ish_holds_and (ish_holds_and (ish_holds_and (ish_holds_and (ish_holds_and (ish_holds_and (ish_holds_and (ish_holds_and (ish_holds_and (ish_holds_and (ish_holds_and (ish_holds_and (ish_holds_and (ish_holds_and (ish_holds_and (ish_holds_and (ish_holds_and (ish_holds_and (ish_holds_and (ish_holds_and (ish_holds_and (ish_holds_and (ish_holds_and (ish_holds_and ish_holds_c0 ish_holds_c1) ish_holds_c2) ish_holds_c3) ish_holds_c4) ish_holds_c5) ish_holds_c6) ish_holds_c7) ish_holds_c8) ish_holds_c9) ish_holds_c10) ish_holds_c11) ish_holds_c12) ish_holds_c13) ish_holds_c14) ish_holds_c15) ish_holds_c16) ish_holds_c17) ish_holds_c18) ish_holds_c19) ish_holds_c20) ish_holds_c21) ish_holds_c22) ish_holds_c23) ish_holds_c24) ish_holds_c25) ish_holds_c26) ish_holds_c27) ish_holds_c28) ish_holds_c29) ish_holds_c30) ish_holds_c31)
theorem ish_holds_named : Try.pinned.checked.prog.funcNamed Rows.fnExactIsHullRow.func = some 6 := by kernel_rfl
theorem ish_holds_inst : Try.f6.isInstance Try.pinned.checked.prog Rows.fnExactIsHullRow.origin Rows.fnExactIsHullRow.targs := of_decide_eq_true (by kernel_rfl)
theorem ish_holds_wrap : Try.f6.isWrapper Try.pinned.checked.prog Rows.fnExactIsHullRow.wrapper Rows.fnExactIsHullRow.mainSum := by unfold Func.isWrapper; first | (rw [if_pos (by decide +kernel)]; kernel_rfl) | (rw [if_neg (by decide +kernel)]; exact ⟨rfl, rfl⟩)
theorem ish_holds : Rows.FnExactIsHullSaid :=
  OpenClaim.holds_of_wide 6 Try.f6 rfl rfl rfl rfl rfl rfl rfl ⟨rfl, rfl, rfl, rfl, rfl⟩ rfl rfl rfl rfl rfl ish_holds_named Try.func6 ish_holds_closed ish_holds_inst ish_holds_wrap
    (fun os started H enc _ => ish_holds_lifted os started H enc)
#print axioms ish_holds
end Go.Proofs.Ytgoiodhofbkkdaa

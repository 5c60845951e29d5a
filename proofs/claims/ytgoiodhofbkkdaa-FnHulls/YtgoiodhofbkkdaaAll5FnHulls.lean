/- The law FnHulls returns true for every argument and leaves it as it was: the given statement FnHullsSaid. No condition. -/
import Derived.Test.YtgoiodhofbkkdaaPkE11
import Derived.Test.YtgoiodhofbkkdaaIo
import Derived.Test.YtgoiodhofbkkdaaOpenY
namespace Go.Proofs.Ytgoiodhofbkkdaa
open Go.ChangeShapes Go.WideShapes Go.ChangeAt Go.RowKit Go.Joins
set_option linter.unusedVariables false
set_option maxRecDepth 100000
set_option linter.unusedSimpArgs false

set_option maxRecDepth 100000 in
theorem hls_holds_lifted (os : Os) (started : os.Started) (H : Type) (enc : TypeId × Value → H) :
    ReturnsInHanded {} Try.checked os 3 .any (Rows.fnHullsSpec.pre6 enc Try.prog Try.f3 Rows.fnHullsRow.domain false) (Rows.fnHullsSpec.post enc Try.prog Try.f3 false true false false) := by
  refine returnsInHanded_of_change (C := Try.checked) own started (by kernel_rfl) Try.func3
    (ChangeSpec.witness6 (enc := enc) (C := Try.checked) false ⟨#[], #[.slice none 0 0, .slice none 0 0], []⟩ 8 (by kernel_rfl) (by kernel_rfl) (by kernel_rfl) (by kernel_rfl)) ?_
  intro W base args ds gs before hval0 hW hcnd _
  have hval : ∀ (j : Nat) t v, Try.f3.params[j]? = some t → args[j]? = some v → Value.okWide Try.prog W .any base t v := hval0
  have hW' := hW
  obtain ⟨p, q, hA0, hV, rfl, hfz, hnd⟩ := hW
  have hA : DataW.TrodAll enc Try.prog W 0 (fun _ => true) true Try.f3.params.toList args.toList ds p := hA0
  rw [Try.params3] at hA hval
  obtain ⟨v0, vs0, d0, ds0, p0, q0, hargs, rfl, rfl, h0, r0⟩ := trodAll_cons hA
  obtain ⟨v1, vs1, d1, ds1, p1, q1, rfl, rfl, rfl, h1, r1⟩ := trodAll_cons r0
  obtain ⟨rfl, rfl, rfl⟩ := trodAll_nil r1
  obtain rfl : args = #[v0, v1] := by cases args; simp_all
  obtain ⟨rfl, rfl⟩ := trodVars_none hV
  have lt0 : ∀ x ∈ p0, x.block < W.heap.size := by obtain ⟨m, hm⟩ := h0; exact DataW.trod_lt m _ _ _ hm
  obtain ⟨a0, n0, c0, rfl, y0⟩ := open_Y (hval 0 22 v0 rfl rfl) h0
  have lt1 : ∀ x ∈ p1, x.block < W.heap.size := by obtain ⟨m, hm⟩ := h1; exact DataW.trod_lt m _ _ _ hm
  obtain ⟨a1, n1, c1, rfl, y1⟩ := open_Y (hval 1 22 v1 rfl rfl) h1
  clear hA0 hval0
  refine (lawHulls_walk a0 n0 c0 a1 n1 c1 W y0 y1).mono fun e W' ⟨he, bel⟩ => ?_
  subst he
  exact ⟨_, rfl, _, _, _, [], _, [], hW', trodAll_mk1 (shut_bool Try.underlying4 _), (trodAll_cons_mk (Below.trod laidOut (by kernel_rfl) (of_decide_eq_true (by kernel_rfl)) h0 bel lt0) (trodAll_cons_mk (Below.trod laidOut (by kernel_rfl) (of_decide_eq_true (by kernel_rfl)) h1 bel lt1) trodAll_mk0)), rfl, bel.frame _, fun h => by cases h⟩

theorem hls_holds_c0 : (Rows.fnHullsRow.wf (OpenSpec.ofChange Rows.fnHullsSpec)) = true := by kernel_rfl
theorem hls_holds_c1 : (laidOutB Try.pinned.checked.prog) = true := by kernel_rfl
theorem hls_holds_c2 : (mapsRowed Try.pinned.checked.prog) = true := by kernel_rfl
theorem hls_holds_c3 : (Try.f3.params.all (Try.pinned.checked.prog.readableRec ·)) = true := by kernel_rfl
theorem hls_holds_c4 : (namedTie Try.pinned.checked.prog Rows.fnHullsRow.named Rows.fnHullsSpec.vars) = true := by kernel_rfl
theorem hls_holds_c5 : (Rows.fnHullsRow.stops == []) = true := by kernel_rfl
theorem hls_holds_c6 : (Try.pinned.checked.prog.stops == []) = true := by kernel_rfl
theorem hls_holds_c7 : (Rows.fnHullsRow.knobs == []) = true := by kernel_rfl
theorem hls_holds_c8 : (Try.pinned.checked.prog.stopKnobs == []) = true := by kernel_rfl
theorem hls_holds_c9 : (Rows.fnHullsRow.inPlace == Try.pinned.checked.prog.inPlace 3) = true := by kernel_rfl
theorem hls_holds_c10 : (Rows.fnHullsRow.unfollowed == Try.pinned.checked.prog.unfollowed 3) = true := by kernel_rfl
theorem hls_holds_c11 : (Rows.fnHullsRow.recurses == Try.pinned.checked.prog.recurses 3) = true := by kernel_rfl
theorem hls_holds_c12 : (Rows.fnHullsRow.named == Try.pinned.checked.prog.varsNamed 3) = true := by kernel_rfl
theorem hls_holds_c13 : (Rows.fnHullsRow.maps == (Try.f3.params.toList ++ Rows.fnHullsSpec.plain.varTypes Try.pinned.checked.prog).any (Try.pinned.checked.prog.mapsRec ·)) = true := by kernel_rfl
theorem hls_holds_c14 : (Rows.fnHullsRow.ifaces == (Try.f3.params.toList ++ Rows.fnHullsSpec.plain.varTypes Try.pinned.checked.prog).any (Try.pinned.checked.prog.ifacesRec ·)) = true := by kernel_rfl
theorem hls_holds_c15 : (Rows.fnHullsRow.mapsOut == Try.pinned.checked.prog.mapsAmong Try.f3.resultTypes.toList) = true := by kernel_rfl
theorem hls_holds_c16 : (Rows.fnHullsRow.loops == (Try.f3.params.toList ++ Rows.fnHullsSpec.plain.varTypes Try.pinned.checked.prog).any (Try.pinned.checked.prog.loopsFrom ·)) = true := by kernel_rfl
theorem hls_holds_c17 : (Rows.fnHullsRow.wideKeys == (Try.f3.params.toList ++ Rows.fnHullsSpec.plain.varTypes Try.pinned.checked.prog ++ Try.f3.resultTypes.toList).any (Try.pinned.checked.prog.wideKeysFrom ·)) = true := by kernel_rfl
theorem hls_holds_c18 : (Rows.fnHullsSpec.vars.all (Try.pinned.checked.prog.varReadable ·)) = true := by kernel_rfl
theorem hls_holds_c19 : (Try.f3.resultTypes.all (fun t => Try.pinned.checked.prog.readableRec t && decide (t < Try.pinned.checked.prog.types.size))) = true := by kernel_rfl
theorem hls_holds_c20 : (Rows.fnHullsRow.ifacesOut == Try.f3.resultTypes.toList.any (Try.pinned.checked.prog.ifacesRec ·)) = true := by kernel_rfl
theorem hls_holds_c21 : (Rows.fnHullsRow.loopsOut == Try.f3.resultTypes.toList.any (Try.pinned.checked.prog.loopsFrom ·)) = true := by kernel_rfl
theorem hls_holds_c22 : (Rows.fnHullsRow.plainKeys == Try.pinned.checked.prog.plainKeys) = true := by kernel_rfl
theorem hls_holds_c23 : (Rows.fnHullsRow.shortTexts.isNone) = true := by kernel_rfl
theorem hls_holds_c24 : (Try.pinned.checked.prog.stopsHeard) = true := by kernel_rfl
theorem hls_holds_c25 : (Try.pinned.checked.prog.mayEnter) = true := io_enter
theorem hls_holds_c26 : (Rows.fnHullsRow.lifted == Try.pinned.checked.prog.liftsFinal) = true := by rw [io_lifts]; kernel_rfl
theorem hls_holds_c27 : (Try.pinned.checked.prog.make == some Rows.fnHullsRow.make) = true := by rw [io_make]; kernel_rfl
theorem hls_holds_c28 : (Rows.fnHullsRow.kinds == (if Rows.fnHullsRow.domain.isEmpty then [] else Try.f3.params.toList.map fun t => match Try.pinned.checked.prog.underlying t with | some (.int k) => some k | _ => none)) = true := by kernel_rfl
theorem hls_holds_c29 : (Rows.fnHullsRow.pinned == Rows.fnHullsRow.pinnedBy) = true := by kernel_rfl
theorem hls_holds_c30 : (Rows.fnHullsRow.veiled == (Try.f3.params.toList ++ Rows.fnHullsSpec.plain.varTypes Try.pinned.checked.prog ++ Try.f3.resultTypes.toList).any (Try.pinned.checked.prog.veiledRec ·)) = true := by kernel_rfl
theorem hls_holds_c31 : (Rows.fnHullsRow.veiledFits Try.pinned.checked.prog Try.f3.params.toList (Try.f3.params.toList ++ Rows.fnHullsSpec.plain.varTypes Try.pinned.checked.prog ++ Try.f3.resultTypes.toList)) = true := by kernel_rfl
theorem hls_holds_and {a b : Bool} (h : a = true) (k : b = true) : (a && b) = true := by rw [h, k]; rfl
theorem hls_holds_closed : joinedFacts Try.pinned.checked.prog 3 Try.f3 Rows.fnHullsSpec Rows.fnHullsRow = true := (hls_holds_and (hls_holds_and (hls_holds_and (hls_holds_and (hls_holds_and (hls_holds_and (hls_holds_and (hls_holds_and (hls_holds_and (hls_holds_and (hls_holds_and (hls_holds_and (hls_holds_and (hls_holds_and (hls_holds_and (hls_holds_and (hls_holds_and (hls_holds_and (hls_holds_and (hls_holds_and (hls_holds_and (hls_holds_and (hls_holds_and (hls_holds_and (hls_holds_and (hls_holds_and (hls_holds_and (hls_holds_and (hls_holds_and (hls_holds_and (hls_holds_and hls_holds_c0 hls_holds_c1) hls_holds_c2) hls_holds_c3) hls_holds_c4) hls_holds_c5) hls_holds_c6) hls_holds_c7) hls_holds_c8) hls_holds_c9) hls_holds_c10) hls_holds_c11) hls_holds_c12) hls_holds_c13) hls_holds_c14) hls_holds_c15) hls_holds_c16) hls_holds_c17) hls_holds_c18) hls_holds_c19) hls_holds_c20) hls_holds_c21) hls_holds_c22) hls_holds_c23) hls_holds_c24) hls_holds_c25) hls_holds_c26) hls_holds_c27) hls_holds_c28) hls_holds_c29) hls_holds_c30) hls_holds_c31)
theorem hls_holds_named : Try.pinned.checked.prog.funcNamed Rows.fnHullsRow.func = some 3 := by kernel_rfl
theorem hls_holds_inst : Try.f3.isInstance Try.pinned.checked.prog Rows.fnHullsRow.origin Rows.fnHullsRow.targs := of_decide_eq_true (by kernel_rfl)
theorem hls_holds_wrap : Try.f3.isWrapper Try.pinned.checked.prog Rows.fnHullsRow.wrapper Rows.fnHullsRow.mainSum := by unfold Func.isWrapper; first | (rw [if_pos (by decide +kernel)]; kernel_rfl) | (rw [if_neg (by decide +kernel)]; exact ⟨rfl, rfl⟩)
theorem hls_holds : Rows.FnHullsSaid :=
  OpenClaim.holds_of_wide 3 Try.f3 rfl rfl rfl rfl rfl rfl rfl ⟨rfl, rfl, rfl, rfl, rfl⟩ rfl rfl rfl rfl rfl hls_holds_named Try.func3 hls_holds_closed hls_holds_inst hls_holds_wrap
    (fun os started H enc _ => hls_holds_lifted os started H enc)
#print axioms hls_holds
end Go.Proofs.Ytgoiodhofbkkdaa

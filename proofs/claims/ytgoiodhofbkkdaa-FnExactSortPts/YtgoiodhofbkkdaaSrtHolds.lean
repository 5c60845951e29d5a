/- The law FnExactSortPts returns true for every argument and leaves it as it was: the given statement FnExactSortPtsSaid. No condition. -/
import Derived.Test.YtgoiodhofbkkdaaSrtLaw
import Derived.Test.YtgoiodhofbkkdaaIo
import Derived.Test.YtgoiodhofbkkdaaOpenPt
namespace Go.Proofs.Ytgoiodhofbkkdaa
open Go.ChangeShapes Go.WideShapes Go.ChangeAt Go.RowKit Go.Joins
set_option linter.unusedVariables false
set_option maxRecDepth 100000
set_option linter.unusedSimpArgs false

set_option maxRecDepth 100000 in
theorem srt_holds_lifted (os : Os) (started : os.Started) (H : Type) (enc : TypeId × Value → H) :
    ReturnsInHanded {} Try.checked os 10 .any (Rows.fnExactSortPtsSpec.pre6 enc Try.prog Try.f10 Rows.fnExactSortPtsRow.domain false) (Rows.fnExactSortPtsSpec.post enc Try.prog Try.f10 false true false false) := by
  refine returnsInHanded_of_change (C := Try.checked) own started (by kernel_rfl) Try.func10
    (ChangeSpec.witness6 (enc := enc) (C := Try.checked) false ⟨#[], #[.slice none 0 0], []⟩ 8 (by kernel_rfl) (by kernel_rfl) (by kernel_rfl) (by kernel_rfl)) ?_
  intro W base args ds gs before hval0 hW hcnd _
  have hval : ∀ (j : Nat) t v, Try.f10.params[j]? = some t → args[j]? = some v → Value.okWide Try.prog W .any base t v := hval0
  have hW' := hW
  obtain ⟨p, q, hA0, hV, rfl, hfz, hnd⟩ := hW
  have hA : DataW.TrodAll enc Try.prog W 0 (fun _ => true) true Try.f10.params.toList args.toList ds p := hA0
  rw [Try.params10] at hA hval
  obtain ⟨v0, vs0, d0, ds0, p0, q0, hargs, rfl, rfl, h0, r0⟩ := trodAll_cons hA
  obtain ⟨rfl, rfl, rfl⟩ := trodAll_nil r0
  obtain rfl : args = #[v0] := by cases args; simp_all
  obtain ⟨rfl, rfl⟩ := trodVars_none hV
  have lt0 : ∀ x ∈ p0, x.block < W.heap.size := by obtain ⟨m, hm⟩ := h0; exact DataW.trod_lt m _ _ _ hm
  obtain ⟨a0, n0, c0, l0, rfl, sl0, hn0, hm0⟩ := open_TS (hval 0 46 v0 rfl rfl) h0
  clear hA0 hval0
  refine (lawSortPts_walk a0 n0 c0 l0 W sl0 hn0 hm0).mono fun e W' ⟨he, bel⟩ => ?_
  subst he
  exact ⟨_, rfl, _, _, _, [], _, [], hW', trodAll_mk1 (shut_bool Try.underlying4 _), (trodAll_cons_mk (Below.trod laidOut (by kernel_rfl) (of_decide_eq_true (by kernel_rfl)) h0 bel lt0) trodAll_mk0), rfl, bel.frame _, fun h => by cases h⟩

theorem srt_holds_c0 : (Rows.fnExactSortPtsRow.wf (OpenSpec.ofChange Rows.fnExactSortPtsSpec)) = true := by kernel_rfl
theorem srt_holds_c1 : (laidOutB Try.pinned.checked.prog) = true := by kernel_rfl
theorem srt_holds_c2 : (mapsRowed Try.pinned.checked.prog) = true := by kernel_rfl
theorem srt_holds_c3 : (Try.f10.params.all (Try.pinned.checked.prog.readableRec ·)) = true := by kernel_rfl
theorem srt_holds_c4 : (namedTie Try.pinned.checked.prog Rows.fnExactSortPtsRow.named Rows.fnExactSortPtsSpec.vars) = true := by kernel_rfl
theorem srt_holds_c5 : (Rows.fnExactSortPtsRow.stops == []) = true := by kernel_rfl
theorem srt_holds_c6 : (Try.pinned.checked.prog.stops == []) = true := by kernel_rfl
theorem srt_holds_c7 : (Rows.fnExactSortPtsRow.knobs == []) = true := by kernel_rfl
theorem srt_holds_c8 : (Try.pinned.checked.prog.stopKnobs == []) = true := by kernel_rfl
theorem srt_holds_c9 : (Rows.fnExactSortPtsRow.inPlace == Try.pinned.checked.prog.inPlace 10) = true := by kernel_rfl
theorem srt_holds_c10 : (Rows.fnExactSortPtsRow.unfollowed == Try.pinned.checked.prog.unfollowed 10) = true := by kernel_rfl
theorem srt_holds_c11 : (Rows.fnExactSortPtsRow.recurses == Try.pinned.checked.prog.recurses 10) = true := by kernel_rfl
theorem srt_holds_c12 : (Rows.fnExactSortPtsRow.named == Try.pinned.checked.prog.varsNamed 10) = true := by kernel_rfl
theorem srt_holds_c13 : (Rows.fnExactSortPtsRow.maps == (Try.f10.params.toList ++ Rows.fnExactSortPtsSpec.plain.varTypes Try.pinned.checked.prog).any (Try.pinned.checked.prog.mapsRec ·)) = true := by kernel_rfl
theorem srt_holds_c14 : (Rows.fnExactSortPtsRow.ifaces == (Try.f10.params.toList ++ Rows.fnExactSortPtsSpec.plain.varTypes Try.pinned.checked.prog).any (Try.pinned.checked.prog.ifacesRec ·)) = true := by kernel_rfl
theorem srt_holds_c15 : (Rows.fnExactSortPtsRow.mapsOut == Try.pinned.checked.prog.mapsAmong Try.f10.resultTypes.toList) = true := by kernel_rfl
theorem srt_holds_c16 : (Rows.fnExactSortPtsRow.loops == (Try.f10.params.toList ++ Rows.fnExactSortPtsSpec.plain.varTypes Try.pinned.checked.prog).any (Try.pinned.checked.prog.loopsFrom ·)) = true := by kernel_rfl
theorem srt_holds_c17 : (Rows.fnExactSortPtsRow.wideKeys == (Try.f10.params.toList ++ Rows.fnExactSortPtsSpec.plain.varTypes Try.pinned.checked.prog ++ Try.f10.resultTypes.toList).any (Try.pinned.checked.prog.wideKeysFrom ·)) = true := by kernel_rfl
theorem srt_holds_c18 : (Rows.fnExactSortPtsSpec.vars.all (Try.pinned.checked.prog.varReadable ·)) = true := by kernel_rfl
theorem srt_holds_c19 : (Try.f10.resultTypes.all (fun t => Try.pinned.checked.prog.readableRec t && decide (t < Try.pinned.checked.prog.types.size))) = true := by kernel_rfl
theorem srt_holds_c20 : (Rows.fnExactSortPtsRow.ifacesOut == Try.f10.resultTypes.toList.any (Try.pinned.checked.prog.ifacesRec ·)) = true := by kernel_rfl
theorem srt_holds_c21 : (Rows.fnExactSortPtsRow.loopsOut == Try.f10.resultTypes.toList.any (Try.pinned.checked.prog.loopsFrom ·)) = true := by kernel_rfl
theorem srt_holds_c22 : (Rows.fnExactSortPtsRow.plainKeys == Try.pinned.checked.prog.plainKeys) = true := by kernel_rfl
theorem srt_holds_c23 : (Rows.fnExactSortPtsRow.shortTexts.isNone) = true := by kernel_rfl
theorem srt_holds_c24 : (Try.pinned.checked.prog.stopsHeard) = true := by kernel_rfl
theorem srt_holds_c25 : (Try.pinned.checked.prog.mayEnter) = true := io_enter
theorem srt_holds_c26 : (Rows.fnExactSortPtsRow.lifted == Try.pinned.checked.prog.liftsFinal) = true := by rw [io_lifts]; kernel_rfl
theorem srt_holds_c27 : (Try.pinned.checked.prog.make == some Rows.fnExactSortPtsRow.make) = true := by rw [io_make]; kernel_rfl
theorem srt_holds_c28 : (Rows.fnExactSortPtsRow.kinds == (if Rows.fnExactSortPtsRow.domain.isEmpty then [] else Try.f10.params.toList.map fun t => match Try.pinned.checked.prog.underlying t with | some (.int k) => some k | _ => none)) = true := by kernel_rfl
theorem srt_holds_c29 : (Rows.fnExactSortPtsRow.pinned == Rows.fnExactSortPtsRow.pinnedBy) = true := by kernel_rfl
theorem srt_holds_c30 : (Rows.fnExactSortPtsRow.veiled == (Try.f10.params.toList ++ Rows.fnExactSortPtsSpec.plain.varTypes Try.pinned.checked.prog ++ Try.f10.resultTypes.toList).any (Try.pinned.checked.prog.veiledRec ·)) = true := by kernel_rfl
theorem srt_holds_c31 : (Rows.fnExactSortPtsRow.veiledFits Try.pinned.checked.prog Try.f10.params.toList (Try.f10.params.toList ++ Rows.fnExactSortPtsSpec.plain.varTypes Try.pinned.checked.prog ++ Try.f10.resultTypes.toList)) = true := by kernel_rfl
theorem srt_holds_and {a b : Bool} (h : a = true) (k : b = true) : (a && b) = true := by rw [h, k]; rfl
theorem srt_holds_closed : joinedFacts Try.pinned.checked.prog 10 Try.f10 Rows.fnExactSortPtsSpec Rows.fnExactSortPtsRow = true := (srt_holds_and (srt_holds_and (srt_holds_and (srt_holds_and (srt_holds_and (srt_holds_and (srt_holds_and (srt_holds_and (srt_holds_and (srt_holds_and (srt_holds_and (srt_holds_and (srt_holds_and (srt_holds_and (srt_holds_and (srt_holds_and (srt_holds_and (srt_holds_and (srt_holds_and (srt_holds_and (srt_holds_and (srt_holds_and (srt_holds_and (srt_holds_and (srt_holds_and (srt_holds_and (srt_holds_and (srt_holds_and (srt_holds_and (srt_holds_and (srt_holds_and srt_holds_c0 srt_holds_c1) srt_holds_c2) srt_holds_c3) srt_holds_c4) srt_holds_c5) srt_holds_c6) srt_holds_c7) srt_holds_c8) srt_holds_c9) srt_holds_c10) srt_holds_c11) srt_holds_c12) srt_holds_c13) srt_holds_c14) srt_holds_c15) srt_holds_c16) srt_holds_c17) srt_holds_c18) srt_holds_c19) srt_holds_c20) srt_holds_c21) srt_holds_c22) srt_holds_c23) srt_holds_c24) srt_holds_c25) srt_holds_c26) srt_holds_c27) srt_holds_c28) srt_holds_c29) srt_holds_c30) srt_holds_c31)
theorem srt_holds_named : Try.pinned.checked.prog.funcNamed Rows.fnExactSortPtsRow.func = some 10 := by kernel_rfl
theorem srt_holds_inst : Try.f10.isInstance Try.pinned.checked.prog Rows.fnExactSortPtsRow.origin Rows.fnExactSortPtsRow.targs := of_decide_eq_true (by kernel_rfl)
theorem srt_holds_wrap : Try.f10.isWrapper Try.pinned.checked.prog Rows.fnExactSortPtsRow.wrapper Rows.fnExactSortPtsRow.mainSum := by unfold Func.isWrapper; first | (rw [if_pos (by decide +kernel)]; kernel_rfl) | (rw [if_neg (by decide +kernel)]; exact ⟨rfl, rfl⟩)
theorem srt_holds : Rows.FnExactSortPtsSaid :=
  OpenClaim.holds_of_wide 10 Try.f10 rfl rfl rfl rfl rfl rfl rfl ⟨rfl, rfl, rfl, rfl, rfl⟩ rfl rfl rfl rfl rfl srt_holds_named Try.func10 srt_holds_closed srt_holds_inst srt_holds_wrap
    (fun os started H enc _ => srt_holds_lifted os started H enc)
#print axioms srt_holds
end Go.Proofs.Ytgoiodhofbkkdaa

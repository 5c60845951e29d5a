/- The law FnExactRunsOf returns true for every argument and leaves it as it was: the given statement FnExactRunsOfSaid. No condition. -/
import Derived.Test.YtcgbpcipdanfhaaRnoLaw
import Derived.Test.YtcgbpcipdanfhaaIo
import Derived.Test.YtcgbpcipdanfhaaOpenIn
namespace Go.Proofs.Ytcgbpcipdanfhaa
open Go.ChangeShapes Go.WideShapes Go.ChangeAt Go.RowKit Go.Joins
set_option linter.unusedVariables false
set_option maxRecDepth 100000
set_option linter.unusedSimpArgs false

set_option maxRecDepth 100000 in
theorem rno_holds_lifted (os : Os) (started : os.Started) (H : Type) (enc : TypeId × Value → H) :
    ReturnsInHanded {} Try.checked os 4 .any (Rows.fnExactRunsOfSpec.pre6 enc Try.prog Try.f4 Rows.fnExactRunsOfRow.domain false) (Rows.fnExactRunsOfSpec.post enc Try.prog Try.f4 false true false false) := by
  refine returnsInHanded_of_change (C := Try.checked) own started (by kernel_rfl) Try.func4
    (ChangeSpec.witness6 (enc := enc) (C := Try.checked) false ⟨#[], #[.slice none 0 0], []⟩ 8 (by kernel_rfl) (by kernel_rfl) (by kernel_rfl) (by kernel_rfl)) ?_
  intro W base args ds gs before hval0 hW hcnd _
  have hval : ∀ (j : Nat) t v, Try.f4.params[j]? = some t → args[j]? = some v → Value.okWide Try.prog W .any base t v := hval0
  have hW' := hW
  obtain ⟨p, q, hA0, hV, rfl, hfz, hnd⟩ := hW
  have hA : DataW.TrodAll enc Try.prog W 0 (fun _ => true) true Try.f4.params.toList args.toList ds p := hA0
  rw [Try.params4] at hA hval
  obtain ⟨v0, vs0, d0, ds0, p0, q0, hargs, rfl, rfl, h0, r0⟩ := trodAll_cons hA
  obtain ⟨rfl, rfl, rfl⟩ := trodAll_nil r0
  obtain rfl : args = #[v0] := by cases args; simp_all
  obtain ⟨rfl, rfl⟩ := trodVars_none hV
  have lt0 : ∀ x ∈ p0, x.block < W.heap.size := by obtain ⟨m, hm⟩ := h0; exact DataW.trod_lt m _ _ _ hm
  obtain ⟨a0, n0, c0, xs0, rfl, sl0, hn0, hm0⟩ := open_IS (hval 0 29 v0 rfl rfl) h0
  clear hA0 hval0
  refine (lawRunsOf_walk a0 n0 c0 xs0 W sl0 hn0 hm0).mono fun e W' ⟨he, bel⟩ => ?_
  subst he
  exact ⟨_, rfl, _, _, _, [], _, [], hW', trodAll_mk1 (shut_bool Try.underlying4 _), (trodAll_cons_mk (Below.trod laidOut (by kernel_rfl) (of_decide_eq_true (by kernel_rfl)) h0 bel lt0) trodAll_mk0), rfl, bel.frame _, fun h => by cases h⟩

theorem rno_holds_c0 : (Rows.fnExactRunsOfRow.wf (OpenSpec.ofChange Rows.fnExactRunsOfSpec)) = true := by kernel_rfl
theorem rno_holds_c1 : (laidOutB Try.pinned.checked.prog) = true := by kernel_rfl
theorem rno_holds_c2 : (mapsRowed Try.pinned.checked.prog) = true := by kernel_rfl
theorem rno_holds_c3 : (Try.f4.params.all (Try.pinned.checked.prog.readableRec ·)) = true := by kernel_rfl
theorem rno_holds_c4 : (namedTie Try.pinned.checked.prog Rows.fnExactRunsOfRow.named Rows.fnExactRunsOfSpec.vars) = true := by kernel_rfl
theorem rno_holds_c5 : (Rows.fnExactRunsOfRow.stops == []) = true := by kernel_rfl
theorem rno_holds_c6 : (Try.pinned.checked.prog.stops == []) = true := by kernel_rfl
theorem rno_holds_c7 : (Rows.fnExactRunsOfRow.knobs == []) = true := by kernel_rfl
theorem rno_holds_c8 : (Try.pinned.checked.prog.stopKnobs == []) = true := by kernel_rfl
theorem rno_holds_c9 : (Rows.fnExactRunsOfRow.inPlace == Try.pinned.checked.prog.inPlace 4) = true := by kernel_rfl
theorem rno_holds_c10 : (Rows.fnExactRunsOfRow.unfollowed == Try.pinned.checked.prog.unfollowed 4) = true := by kernel_rfl
theorem rno_holds_c11 : (Rows.fnExactRunsOfRow.recurses == Try.pinned.checked.prog.recurses 4) = true := by kernel_rfl
theorem rno_holds_c12 : (Rows.fnExactRunsOfRow.named == Try.pinned.checked.prog.varsNamed 4) = true := by kernel_rfl
theorem rno_holds_c13 : (Rows.fnExactRunsOfRow.maps == (Try.f4.params.toList ++ Rows.fnExactRunsOfSpec.plain.varTypes Try.pinned.checked.prog).any (Try.pinned.checked.prog.mapsRec ·)) = true := by kernel_rfl
theorem rno_holds_c14 : (Rows.fnExactRunsOfRow.ifaces == (Try.f4.params.toList ++ Rows.fnExactRunsOfSpec.plain.varTypes Try.pinned.checked.prog).any (Try.pinned.checked.prog.ifacesRec ·)) = true := by kernel_rfl
theorem rno_holds_c15 : (Rows.fnExactRunsOfRow.mapsOut == Try.pinned.checked.prog.mapsAmong Try.f4.resultTypes.toList) = true := by kernel_rfl
theorem rno_holds_c16 : (Rows.fnExactRunsOfRow.loops == (Try.f4.params.toList ++ Rows.fnExactRunsOfSpec.plain.varTypes Try.pinned.checked.prog).any (Try.pinned.checked.prog.loopsFrom ·)) = true := by kernel_rfl
theorem rno_holds_c17 : (Rows.fnExactRunsOfRow.wideKeys == (Try.f4.params.toList ++ Rows.fnExactRunsOfSpec.plain.varTypes Try.pinned.checked.prog ++ Try.f4.resultTypes.toList).any (Try.pinned.checked.prog.wideKeysFrom ·)) = true := by kernel_rfl
theorem rno_holds_c18 : (Rows.fnExactRunsOfSpec.vars.all (Try.pinned.checked.prog.varReadable ·)) = true := by kernel_rfl
theorem rno_holds_c19 : (Try.f4.resultTypes.all (fun t => Try.pinned.checked.prog.readableRec t && decide (t < Try.pinned.checked.prog.types.size))) = true := by kernel_rfl
theorem rno_holds_c20 : (Rows.fnExactRunsOfRow.ifacesOut == Try.f4.resultTypes.toList.any (Try.pinned.checked.prog.ifacesRec ·)) = true := by kernel_rfl
theorem rno_holds_c21 : (Rows.fnExactRunsOfRow.loopsOut == Try.f4.resultTypes.toList.any (Try.pinned.checked.prog.loopsFrom ·)) = true := by kernel_rfl
theorem rno_holds_c22 : (Rows.fnExactRunsOfRow.plainKeys == Try.pinned.checked.prog.plainKeys) = true := by kernel_rfl
theorem rno_holds_c23 : (Rows.fnExactRunsOfRow.shortTexts.isNone) = true := by kernel_rfl
theorem rno_holds_c24 : (Try.pinned.checked.prog.stopsHeard) = true := by kernel_rfl
theorem rno_holds_c25 : (Try.pinned.checked.prog.mayEnter) = true := io_enter
theorem rno_holds_c26 : (Rows.fnExactRunsOfRow.lifted == Try.pinned.checked.prog.liftsFinal) = true := by rw [io_lifts]; kernel_rfl
theorem rno_holds_c27 : (Try.pinned.checked.prog.make == some Rows.fnExactRunsOfRow.make) = true := by rw [io_make]; kernel_rfl
theorem rno_holds_c28 : (Rows.fnExactRunsOfRow.kinds == (if Rows.fnExactRunsOfRow.domain.isEmpty then [] else Try.f4.params.toList.map fun t => match Try.pinned.checked.prog.underlying t with | some (.int k) => some k | _ => none)) = true := by kernel_rfl
theorem rno_holds_c29 : (Rows.fnExactRunsOfRow.pinned == Rows.fnExactRunsOfRow.pinnedBy) = true := by kernel_rfl
theorem rno_holds_c30 : (Rows.fnExactRunsOfRow.veiled == (Try.f4.params.toList ++ Rows.fnExactRunsOfSpec.plain.varTypes Try.pinned.checked.prog ++ Try.f4.resultTypes.toList).any (Try.pinned.checked.prog.veiledRec ·)) = true := by kernel_rfl
theorem rno_holds_c31 : (Rows.fnExactRunsOfRow.veiledFits Try.pinned.checked.prog Try.f4.params.toList (Try.f4.params.toList ++ Rows.fnExactRunsOfSpec.plain.varTypes Try.pinned.checked.prog ++ Try.f4.resultTypes.toList)) = true := by kernel_rfl
theorem rno_holds_and {a b : Bool} (h : a = true) (k : b = true) : (a && b) = true := by rw [h, k]; rfl
theorem rno_holds_closed : joinedFacts Try.pinned.checked.prog 4 Try.f4 Rows.fnExactRunsOfSpec Rows.fnExactRunsOfRow = true := (rno_holds_and (rno_holds_and (rno_holds_and (rno_holds_and (rno_holds_and (rno_holds_and (rno_holds_and (rno_holds_and (rno_holds_and (rno_holds_and (rno_holds_and (rno_holds_and (rno_holds_and (rno_holds_and (rno_holds_and (rno_holds_and (rno_holds_and (rno_holds_and (rno_holds_and (rno_holds_and (rno_holds_and (rno_holds_and (rno_holds_and (rno_holds_and (rno_holds_and (rno_holds_and (rno_holds_and (rno_holds_and (rno_holds_and (rno_holds_and (rno_holds_and rno_holds_c0 rno_holds_c1) rno_holds_c2) rno_holds_c3) rno_holds_c4) rno_holds_c5) rno_holds_c6) rno_holds_c7) rno_holds_c8) rno_holds_c9) rno_holds_c10) rno_holds_c11) rno_holds_c12) rno_holds_c13) rno_holds_c14) rno_holds_c15) rno_holds_c16) rno_holds_c17) rno_holds_c18) rno_holds_c19) rno_holds_c20) rno_holds_c21) rno_holds_c22) rno_holds_c23) rno_holds_c24) rno_holds_c25) rno_holds_c26) rno_holds_c27) rno_holds_c28) rno_holds_c29) rno_holds_c30) rno_holds_c31)
theorem rno_holds_named : Try.pinned.checked.prog.funcNamed Rows.fnExactRunsOfRow.func = some 4 := by kernel_rfl
theorem rno_holds_inst : Try.f4.isInstance Try.pinned.checked.prog Rows.fnExactRunsOfRow.origin Rows.fnExactRunsOfRow.targs := of_decide_eq_true (by kernel_rfl)
theorem rno_holds_wrap : Try.f4.isWrapper Try.pinned.checked.prog Rows.fnExactRunsOfRow.wrapper Rows.fnExactRunsOfRow.mainSum := by unfold Func.isWrapper; first | (rw [if_pos (by decide +kernel)]; kernel_rfl) | (rw [if_neg (by decide +kernel)]; exact ⟨rfl, rfl⟩)
theorem rno_holds : Rows.FnExactRunsOfSaid :=
  OpenClaim.holds_of_wide 4 Try.f4 rfl rfl rfl rfl rfl rfl rfl ⟨rfl, rfl, rfl, rfl, rfl⟩ rfl rfl rfl rfl rfl rno_holds_named Try.func4 rno_holds_closed rno_holds_inst rno_holds_wrap
    (fun os started H enc _ => rno_holds_lifted os started H enc)
#print axioms rno_holds
end Go.Proofs.Ytcgbpcipdanfhaa

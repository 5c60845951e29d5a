/- The law FnConvex returns true for every argument and leaves it as it was: the given statement FnConvexSaid. No condition. -/
import Derived.Test.YtgoiodhofbkkdaaPkE11
import Derived.Test.YtgoiodhofbkkdaaIo
import Derived.Test.YtgoiodhofbkkdaaOpenY
namespace Go.Proofs.Ytgoiodhofbkkdaa
open Go.ChangeShapes Go.WideShapes Go.ChangeAt Go.RowKit Go.Joins
set_option linter.unusedVariables false
set_option maxRecDepth 100000
set_option linter.unusedSimpArgs false

set_option maxRecDepth 100000 in
theorem con_holds_lifted (os : Os) (started : os.Started) (H : Type) (enc : TypeId × Value → H) :
    ReturnsInHanded {} Try.checked os 4 .any (Rows.fnConvexSpec.pre6 enc Try.prog Try.f4 Rows.fnConvexRow.domain false) (Rows.fnConvexSpec.post enc Try.prog Try.f4 false true false false) := by
  refine returnsInHanded_of_change (C := Try.checked) own started (by kernel_rfl) Try.func4
    (ChangeSpec.witness6 (enc := enc) (C := Try.checked) false ⟨#[], #[.slice none 0 0, .slice none 0 0], []⟩ 8 (by kernel_rfl) (by kernel_rfl) (by kernel_rfl) (by kernel_rfl)) ?_
  intro W base args ds gs before hval0 hW hcnd _
  have hval : ∀ (j : Nat) t v, Try.f4.params[j]? = some t → args[j]? = some v → Value.okWide Try.prog W .any base t v := hval0
  have hW' := hW
  obtain ⟨p, q, hA0, hV, rfl, hfz, hnd⟩ := hW
  have hA : DataW.TrodAll enc Try.prog W 0 (fun _ => true) true Try.f4.params.toList args.toList ds p := hA0
  rw [Try.params4] at hA hval
  obtain ⟨v0, vs0, d0, ds0, p0, q0, hargs, rfl, rfl, h0, r0⟩ := trodAll_cons hA
  obtain ⟨v1, vs1, d1, ds1, p1, q1, rfl, rfl, rfl, h1, r1⟩ := trodAll_cons r0
  obtain ⟨rfl, rfl, rfl⟩ := trodAll_nil r1
  obtain rfl : args = #[v0, v1] := by cases args; simp_all
  obtain ⟨rfl, rfl⟩ := trodVars_none hV
  have lt0 : ∀ x ∈ p0, x.block < W.heap.size := by obtain ⟨m, hm⟩ := h0; exact DataW.trod_lt m _ _ _ hm
  obtain ⟨a0, n0, c0, rfl, y0⟩ := open_Y (hval 0 22 v0 rfl rfl) h0
  have lt1 : ∀ x ∈ p1, x.block < W.heap.size := by obtain ⟨m, hm⟩ := h1; exact DataW.trod_lt m _ _ _ hm
  obtain ⟨a1, n1, c1, rfl, y1⟩ := open_Y (hval 1 22 v1 rfl rfl) h1
  clear hA0 hval0
  refine (lawConvex_walk a0 n0 c0 a1 n1 c1 W y0 y1).mono fun e W' ⟨he, bel⟩ => ?_
  subst he
  exact ⟨_, rfl, _, _, _, [], _, [], hW', trodAll_mk1 (shut_bool Try.underlying4 _), (trodAll_cons_mk (Below.trod laidOut (by kernel_rfl) (of_decide_eq_true (by kernel_rfl)) h0 bel lt0) (trodAll_cons_mk (Below.trod laidOut (by kernel_rfl) (of_decide_eq_true (by kernel_rfl)) h1 bel lt1) trodAll_mk0)), rfl, bel.frame _, fun h => by cases h⟩

theorem con_holds_c0 : (Rows.fnConvexRow.wf (OpenSpec.ofChange Rows.fnConvexSpec)) = true := by kernel_rfl
theorem con_holds_c1 : (laidOutB Try.pinned.checked.prog) = true := by kernel_rfl
theorem con_holds_c2 : (mapsRowed Try.pinned.checked.prog) = true := by kernel_rfl
theorem con_holds_c3 : (Try.f4.params.all (Try.pinned.checked.prog.readableRec ·)) = true := by kernel_rfl
theorem con_holds_c4 : (namedTie Try.pinned.checked.prog Rows.fnConvexRow.named Rows.fnConvexSpec.vars) = true := by kernel_rfl
theorem con_holds_c5 : (Rows.fnConvexRow.stops == []) = true := by kernel_rfl
theorem con_holds_c6 : (Try.pinned.checked.prog.stops == []) = true := by kernel_rfl
theorem con_holds_c7 : (Rows.fnConvexRow.knobs == []) = true := by kernel_rfl
theorem con_holds_c8 : (Try.pinned.checked.prog.stopKnobs == []) = true := by kernel_rfl
theorem con_holds_c9 : (Rows.fnConvexRow.inPlace == Try.pinned.checked.prog.inPlace 4) = true := by kernel_rfl
theorem con_holds_c10 : (Rows.fnConvexRow.unfollowed == Try.pinned.checked.prog.unfollowed 4) = true := by kernel_rfl
theorem con_holds_c11 : (Rows.fnConvexRow.recurses == Try.pinned.checked.prog.recurses 4) = true := by kernel_rfl
theorem con_holds_c12 : (Rows.fnConvexRow.named == Try.pinned.checked.prog.varsNamed 4) = true := by kernel_rfl
theorem con_holds_c13 : (Rows.fnConvexRow.maps == (Try.f4.params.toList ++ Rows.fnConvexSpec.plain.varTypes Try.pinned.checked.prog).any (Try.pinned.checked.prog.mapsRec ·)) = true := by kernel_rfl
theorem con_holds_c14 : (Rows.fnConvexRow.ifaces == (Try.f4.params.toList ++ Rows.fnConvexSpec.plain.varTypes Try.pinned.checked.prog).any (Try.pinned.checked.prog.ifacesRec ·)) = true := by kernel_rfl
theorem con_holds_c15 : (Rows.fnConvexRow.mapsOut == Try.pinned.checked.prog.mapsAmong Try.f4.resultTypes.toList) = true := by kernel_rfl
theorem con_holds_c16 : (Rows.fnConvexRow.loops == (Try.f4.params.toList ++ Rows.fnConvexSpec.plain.varTypes Try.pinned.checked.prog).any (Try.pinned.checked.prog.loopsFrom ·)) = true := by kernel_rfl
theorem con_holds_c17 : (Rows.fnConvexRow.wideKeys == (Try.f4.params.toList ++ Rows.fnConvexSpec.plain.varTypes Try.pinned.checked.prog ++ Try.f4.resultTypes.toList).any (Try.pinned.checked.prog.wideKeysFrom ·)) = true := by kernel_rfl
theorem con_holds_c18 : (Rows.fnConvexSpec.vars.all (Try.pinned.checked.prog.varReadable ·)) = true := by kernel_rfl
theorem con_holds_c19 : (Try.f4.resultTypes.all (fun t => Try.pinned.checked.prog.readableRec t && decide (t < Try.pinned.checked.prog.types.size))) = true := by kernel_rfl
theorem con_holds_c20 : (Rows.fnConvexRow.ifacesOut == Try.f4.resultTypes.toList.any (Try.pinned.checked.prog.ifacesRec ·)) = true := by kernel_rfl
theorem con_holds_c21 : (Rows.fnConvexRow.loopsOut == Try.f4.resultTypes.toList.any (Try.pinned.checked.prog.loopsFrom ·)) = true := by kernel_rfl
theorem con_holds_c22 : (Rows.fnConvexRow.plainKeys == Try.pinned.checked.prog.plainKeys) = true := by kernel_rfl
theorem con_holds_c23 : (Rows.fnConvexRow.shortTexts.isNone) = true := by kernel_rfl
theorem con_holds_c24 : (Try.pinned.checked.prog.stopsHeard) = true := by kernel_rfl
theorem con_holds_c25 : (Try.pinned.checked.prog.mayEnter) = true := io_enter
theorem con_holds_c26 : (Rows.fnConvexRow.lifted == Try.pinned.checked.prog.liftsFinal) = true := by rw [io_lifts]; kernel_rfl
theorem con_holds_c27 : (Try.pinned.checked.prog.make == some Rows.fnConvexRow.make) = true := by rw [io_make]; kernel_rfl
theorem con_holds_c28 : (Rows.fnConvexRow.kinds == (if Rows.fnConvexRow.domain.isEmpty then [] else Try.f4.params.toList.map fun t => match Try.pinned.checked.prog.underlying t with | some (.int k) => some k | _ => none)) = true := by kernel_rfl
theorem con_holds_c29 : (Rows.fnConvexRow.pinned == Rows.fnConvexRow.pinnedBy) = true := by kernel_rfl
theorem con_holds_c30 : (Rows.fnConvexRow.veiled == (Try.f4.params.toList ++ Rows.fnConvexSpec.plain.varTypes Try.pinned.checked.prog ++ Try.f4.resultTypes.toList).any (Try.pinned.checked.prog.veiledRec ·)) = true := by kernel_rfl
theorem con_holds_c31 : (Rows.fnConvexRow.veiledFits Try.pinned.checked.prog Try.f4.params.toList (Try.f4.params.toList ++ Rows.fnConvexSpec.plain.varTypes Try.pinned.checked.prog ++ Try.f4.resultTypes.toList)) = true := by kernel_rfl
theorem con_holds_and {a b : Bool} (h : a = true) (k : b = true) : (a && b) = true := by rw [h, k]; rfl
theorem con_holds_closed : joinedFacts Try.pinned.checked.prog 4 Try.f4 Rows.fnConvexSpec Rows.fnConvexRow = true := (con_holds_and (con_holds_and (con_holds_and (con_holds_and (con_holds_and (con_holds_and (con_holds_and (con_holds_and (con_holds_and (con_holds_and (con_holds_and (con_holds_and (con_holds_and (con_holds_and (con_holds_and (con_holds_and (con_holds_and (con_holds_and (con_holds_and (con_holds_and (con_holds_and (con_holds_and (con_holds_and (con_holds_and (con_holds_and (con_holds_and (con_holds_and (con_holds_and (con_holds_and (con_holds_and (con_holds_and con_holds_c0 con_holds_c1) con_holds_c2) con_holds_c3) con_holds_c4) con_holds_c5) con_holds_c6) con_holds_c7) con_holds_c8) con_holds_c9) con_holds_c10) con_holds_c11) con_holds_c12) con_holds_c13) con_holds_c14) con_holds_c15) con_holds_c16) con_holds_c17) con_holds_c18) con_holds_c19) con_holds_c20) con_holds_c21) con_holds_c22) con_holds_c23) con_holds_c24) con_holds_c25) con_holds_c26) con_holds_c27) con_holds_c28) con_holds_c29) con_holds_c30) con_holds_c31)
theorem con_holds_named : Try.pinned.checked.prog.funcNamed Rows.fnConvexRow.func = some 4 := by kernel_rfl
theorem con_holds_inst : Try.f4.isInstance Try.pinned.checked.prog Rows.fnConvexRow.origin Rows.fnConvexRow.targs := of_decide_eq_true (by kernel_rfl)
theorem con_holds_wrap : Try.f4.isWrapper Try.pinned.checked.prog Rows.fnConvexRow.wrapper Rows.fnConvexRow.mainSum := by unfold Func.isWrapper; first | (rw [if_pos (by decide +kernel)]; kernel_rfl) | (rw [if_neg (by decide +kernel)]; exact ⟨rfl, rfl⟩)
theorem con_holds : Rows.FnConvexSaid :=
  OpenClaim.holds_of_wide 4 Try.f4 rfl rfl rfl rfl rfl rfl rfl ⟨rfl, rfl, rfl, rfl, rfl⟩ rfl rfl rfl rfl rfl con_holds_named Try.func4 con_holds_closed con_holds_inst con_holds_wrap
    (fun os started H enc _ => con_holds_lifted os started H enc)
#print axioms con_holds
end Go.Proofs.Ytgoiodhofbkkdaa

/- The law FnExactTurnAll returns true for every argument and leaves it as it was: the given statement FnExactTurnAllSaid. No condition. -/
import Derived.Test.YtpchoiaombigjaaTurLaw
import Derived.Test.YtpchoiaombigjaaIo
import Derived.Test.YtpchoiaombigjaaOpenPt
namespace Go.Proofs.Ytpchoiaombigjaa
open Go.ChangeShapes Go.WideShapes Go.ChangeAt Go.RowKit Go.Joins
set_option linter.unusedVariables false
set_option maxRecDepth 100000
set_option linter.unusedSimpArgs false

set_option maxRecDepth 100000 in
theorem tur_holds_lifted (os : Os) (started : os.Started) (H : Type) (enc : TypeId × Value → H) :
    ReturnsInHanded {} Try.checked os 14 .any (Rows.fnExactTurnAllSpec.pre6 enc Try.prog Try.f14 Rows.fnExactTurnAllRow.domain false) (Rows.fnExactTurnAllSpec.post enc Try.prog Try.f14 false true false false) := by
  refine returnsInHanded_of_change (C := Try.checked) own started (by kernel_rfl) Try.func14
    (ChangeSpec.witness6 (enc := enc) (C := Try.checked) false ⟨#[], #[.slice none 0 0], []⟩ 8 (by kernel_rfl) (by kernel_rfl) (by kernel_rfl) (by kernel_rfl)) ?_
  intro W base args ds gs before hval0 hW hcnd _
  have hval : ∀ (j : Nat) t v, Try.f14.params[j]? = some t → args[j]? = some v → Value.okWide Try.prog W .any base t v := hval0
  have hW' := hW
  obtain ⟨p, q, hA0, hV, rfl, hfz, hnd⟩ := hW
  have hA : DataW.TrodAll enc Try.prog W 0 (fun _ => true) true Try.f14.params.toList args.toList ds p := hA0
  rw [Try.params14] at hA hval
  obtain ⟨v0, vs0, d0, ds0, p0, q0, hargs, rfl, rfl, h0, r0⟩ := trodAll_cons hA
  obtain ⟨rfl, rfl, rfl⟩ := trodAll_nil r0
  obtain rfl : args = #[v0] := by cases args; simp_all
  obtain ⟨rfl, rfl⟩ := trodVars_none hV
  have lt0 : ∀ x ∈ p0, x.block < W.heap.size := by obtain ⟨m, hm⟩ := h0; exact DataW.trod_lt m _ _ _ hm
  obtain ⟨a0, n0, c0, l0, rfl, sl0, hn0, hm0⟩ := open_TS (hval 0 57 v0 rfl rfl) h0
  clear hA0 hval0
  refine (lawTurnAll_walk a0 n0 c0 l0 W sl0 hn0 hm0).mono fun e W' ⟨he, bel⟩ => ?_
  subst he
  exact ⟨_, rfl, _, _, _, [], _, [], hW', trodAll_mk1 (shut_bool Try.underlying4 _), (trodAll_cons_mk (Below.trod laidOut (by kernel_rfl) (of_decide_eq_true (by kernel_rfl)) h0 bel lt0) trodAll_mk0), rfl, bel.frame _, fun h => by cases h⟩

theorem tur_holds_c0 : (Rows.fnExactTurnAllRow.wf (OpenSpec.ofChange Rows.fnExactTurnAllSpec)) = true := by kernel_rfl
theorem tur_holds_c1 : (laidOutB Try.pinned.checked.prog) = true := by kernel_rfl
theorem tur_holds_c2 : (mapsRowed Try.pinned.checked.prog) = true := by kernel_rfl
theorem tur_holds_c3 : (Try.f14.params.all (Try.pinned.checked.prog.readableRec ·)) = true := by kernel_rfl
theorem tur_holds_c4 : (namedTie Try.pinned.checked.prog Rows.fnExactTurnAllRow.named Rows.fnExactTurnAllSpec.vars) = true := by kernel_rfl
theorem tur_holds_c5 : (Rows.fnExactTurnAllRow.stops == []) = true := by kernel_rfl
theorem tur_holds_c6 : (Try.pinned.checked.prog.stops == []) = true := by kernel_rfl
theorem tur_holds_c7 : (Rows.fnExactTurnAllRow.knobs == []) = true := by kernel_rfl
theorem tur_holds_c8 : (Try.pinned.checked.prog.stopKnobs == []) = true := by kernel_rfl
theorem tur_holds_c9 : (Rows.fnExactTurnAllRow.inPlace == Try.pinned.checked.prog.inPlace 14) = true := by kernel_rfl
theorem tur_holds_c10 : (Rows.fnExactTurnAllRow.unfollowed == Try.pinned.checked.prog.unfollowed 14) = true := by kernel_rfl
theorem tur_holds_c11 : (Rows.fnExactTurnAllRow.recurses == Try.pinned.checked.prog.recurses 14) = true := by kernel_rfl
theorem tur_holds_c12 : (Rows.fnExactTurnAllRow.named == Try.pinned.checked.prog.varsNamed 14) = true := by kernel_rfl
theorem tur_holds_c13 : (Rows.fnExactTurnAllRow.maps == (Try.f14.params.toList ++ Rows.fnExactTurnAllSpec.plain.varTypes Try.pinned.checked.prog).any (Try.pinned.checked.prog.mapsRec ·)) = true := by kernel_rfl
theorem tur_holds_c14 : (Rows.fnExactTurnAllRow.ifaces == (Try.f14.params.toList ++ Rows.fnExactTurnAllSpec.plain.varTypes Try.pinned.checked.prog).any (Try.pinned.checked.prog.ifacesRec ·)) = true := by kernel_rfl
theorem tur_holds_c15 : (Rows.fnExactTurnAllRow.mapsOut == Try.pinned.checked.prog.mapsAmong Try.f14.resultTypes.toList) = true := by kernel_rfl
theorem tur_holds_c16 : (Rows.fnExactTurnAllRow.loops == (Try.f14.params.toList ++ Rows.fnExactTurnAllSpec.plain.varTypes Try.pinned.checked.prog).any (Try.pinned.checked.prog.loopsFrom ·)) = true := by kernel_rfl
theorem tur_holds_c17 : (Rows.fnExactTurnAllRow.wideKeys == (Try.f14.params.toList ++ Rows.fnExactTurnAllSpec.plain.varTypes Try.pinned.checked.prog ++ Try.f14.resultTypes.toList).any (Try.pinned.checked.prog.wideKeysFrom ·)) = true := by kernel_rfl
theorem tur_holds_c18 : (Rows.fnExactTurnAllSpec.vars.all (Try.pinned.checked.prog.varReadable ·)) = true := by kernel_rfl
theorem tur_holds_c19 : (Try.f14.resultTypes.all (fun t => Try.pinned.checked.prog.readableRec t && decide (t < Try.pinned.checked.prog.types.size))) = true := by kernel_rfl
theorem tur_holds_c20 : (Rows.fnExactTurnAllRow.ifacesOut == Try.f14.resultTypes.toList.any (Try.pinned.checked.prog.ifacesRec ·)) = true := by kernel_rfl
theorem tur_holds_c21 : (Rows.fnExactTurnAllRow.loopsOut == Try.f14.resultTypes.toList.any (Try.pinned.checked.prog.loopsFrom ·)) = true := by kernel_rfl
theorem tur_holds_c22 : (Rows.fnExactTurnAllRow.plainKeys == Try.pinned.checked.prog.plainKeys) = true := by kernel_rfl
theorem tur_holds_c23 : (Rows.fnExactTurnAllRow.shortTexts.isNone) = true := by kernel_rfl
theorem tur_holds_c24 : (Try.pinned.checked.prog.stopsHeard) = true := by kernel_rfl
theorem tur_holds_c25 : (Try.pinned.checked.prog.mayEnter) = true := io_enter
theorem tur_holds_c26 : (Rows.fnExactTurnAllRow.lifted == Try.pinned.checked.prog.liftsFinal) = true := by rw [io_lifts]; kernel_rfl
theorem tur_holds_c27 : (Try.pinned.checked.prog.make == some Rows.fnExactTurnAllRow.make) = true := by rw [io_make]; kernel_rfl
theorem tur_holds_c28 : (Rows.fnExactTurnAllRow.kinds == (if Rows.fnExactTurnAllRow.domain.isEmpty then [] else Try.f14.params.toList.map fun t => match Try.pinned.checked.prog.underlying t with | some (.int k) => some k | _ => none)) = true := by kernel_rfl
theorem tur_holds_c29 : (Rows.fnExactTurnAllRow.pinned == Rows.fnExactTurnAllRow.pinnedBy) = true := by kernel_rfl
theorem tur_holds_c30 : (Rows.fnExactTurnAllRow.veiled == (Try.f14.params.toList ++ Rows.fnExactTurnAllSpec.plain.varTypes Try.pinned.checked.prog ++ Try.f14.resultTypes.toList).any (Try.pinned.checked.prog.veiledRec ·)) = true := by kernel_rfl
theorem tur_holds_c31 : (Rows.fnExactTurnAllRow.veiledFits Try.pinned.checked.prog Try.f14.params.toList (Try.f14.params.toList ++ Rows.fnExactTurnAllSpec.plain.varTypes Try.pinned.checked.prog ++ Try.f14.resultTypes.toList)) = true := by kernel_rfl
theorem tur_holds_and {a b : Bool} (h : a = true) (k : b = true) : (a && b) = true := by rw [h, k]; rfl
theorem tur_holds_closed : joinedFacts Try.pinned.checked.prog 14 Try.f14 Rows.fnExactTurnAllSpec Rows.fnExactTurnAllRow = true := (tur_holds_and (tur_holds_and (tur_holds_and (tur_holds_and (tur_holds_and (tur_holds_and (tur_holds_and (tur_holds_and (tur_holds_and (tur_holds_and (tur_holds_and (tur_holds_and (tur_holds_and (tur_holds_and (tur_holds_and (tur_holds_and (tur_holds_and (tur_holds_and (tur_holds_and (tur_holds_and (tur_holds_and (tur_holds_and (tur_holds_and (tur_holds_and (tur_holds_and (tur_holds_and (tur_holds_and (tur_holds_and (tur_holds_and (tur_holds_and (tur_holds_and tur_holds_c0 tur_holds_c1) tur_holds_c2) tur_holds_c3) tur_holds_c4) tur_holds_c5) tur_holds_c6) tur_holds_c7) tur_holds_c8) tur_holds_c9) tur_holds_c10) tur_holds_c11) tur_holds_c12) tur_holds_c13) tur_holds_c14) tur_holds_c15) tur_holds_c16) tur_holds_c17) tur_holds_c18) tur_holds_c19) tur_holds_c20) tur_holds_c21) tur_holds_c22) tur_holds_c23) tur_holds_c24) tur_holds_c25) tur_holds_c26) tur_holds_c27) tur_holds_c28) tur_holds_c29) tur_holds_c30) tur_holds_c31)
theorem tur_holds_named : Try.pinned.checked.prog.funcNamed Rows.fnExactTurnAllRow.func = some 14 := by kernel_rfl
theorem tur_holds_inst : Try.f14.isInstance Try.pinned.checked.prog Rows.fnExactTurnAllRow.origin Rows.fnExactTurnAllRow.targs := of_decide_eq_true (by kernel_rfl)
theorem tur_holds_wrap : Try.f14.isWrapper Try.pinned.checked.prog Rows.fnExactTurnAllRow.wrapper Rows.fnExactTurnAllRow.mainSum := by unfold Func.isWrapper; first | (rw [if_pos (by decide +kernel)]; kernel_rfl) | (rw [if_neg (by decide +kernel)]; exact ⟨rfl, rfl⟩)
theorem tur_holds : Rows.FnExactTurnAllSaid :=
  OpenClaim.holds_of_wide 14 Try.f14 rfl rfl rfl rfl rfl rfl rfl ⟨rfl, rfl, rfl, rfl, rfl⟩ rfl rfl rfl rfl rfl tur_holds_named Try.func14 tur_holds_closed tur_holds_inst tur_holds_wrap
    (fun os started H enc _ => tur_holds_lifted os started H enc)
#print axioms tur_holds
end Go.Proofs.Ytpchoiaombigjaa

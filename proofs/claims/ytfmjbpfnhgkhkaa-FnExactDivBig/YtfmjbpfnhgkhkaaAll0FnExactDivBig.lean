/- The law FnExactDivBig returns true for every argument and leaves it as it was: the given statement FnExactDivBigSaid. No condition. -/
import Derived.Test.YtfmjbpfnhgkhkaaOpen
import Derived.Test.YtfmjbpfnhgkhkaaFlat
import Derived.Test.YtfmjbpfnhgkhkaaDivLaw
import Derived.Test.YtfmjbpfnhgkhkaaIo
namespace Go.Proofs.Ytfmjbpfnhgkhkaa
open Go.ChangeShapes Go.WideShapes Go.ChangeAt Go.RowKit Go.Joins
set_option linter.unusedVariables false
set_option maxRecDepth 100000
set_option linter.unusedSimpArgs false

theorem open_B {H : Type} {enc : TypeId × Value → H} {W : World} {r : Reach} {b0 : Nat} {v : Value} {d : DataW H} {p : List MemPlace}
    (hv : Value.okWide Try.prog W r b0 24 v) (h : DataW.Trod enc Try.prog W 0 (fun _ => true) true 24 v d p) :
    ∃ (q : BV) (e : BD), v = .agg #[.bool q.g, .slice q.a q.n q.c] ∧ AllSl W [(q, e)] ∧ q.n ≤ maxLen := by
  obtain ⟨g, a, n, c, xs, rfl, hx, hn, hm, _⟩ := open_big hv h
  exact ⟨⟨g, a, n, c⟩, ⟨g, xs⟩, rfl, AllSl.cons ⟨rfl, hx, hn⟩ (AllSl.nil _), hm⟩
end Go.Proofs.Ytfmjbpfnhgkhkaa
namespace Go.Proofs.Ytfmjbpfnhgkhkaa
open Go.ChangeShapes Go.WideShapes Go.ChangeAt Go.RowKit Go.Joins
set_option linter.unusedVariables false
set_option maxRecDepth 100000
set_option linter.unusedSimpArgs false

set_option maxRecDepth 100000 in
theorem div_holds_lifted (os : Os) (started : os.Started) (H : Type) (enc : TypeId × Value → H) :
    ReturnsInHanded {} Try.checked os 3 .any (Rows.fnExactDivBigSpec.pre6 enc Try.prog Try.f3 Rows.fnExactDivBigRow.domain false) (Rows.fnExactDivBigSpec.post enc Try.prog Try.f3 false true false false) := by
  refine returnsInHanded_of_change (C := Try.checked) own started (by kernel_rfl) Try.func3
    (ChangeSpec.witness6 (enc := enc) (C := Try.checked) false ⟨#[], #[.agg #[.bool false, .slice none 0 0], .agg #[.bool false, .slice none 0 0]], []⟩ 8 (by kernel_rfl) (by kernel_rfl) (by kernel_rfl) (by kernel_rfl)) ?_
  intro W base args ds gs before hval0 hW hcnd _
  have hval : ∀ (j : Nat) t v, Try.f3.params[j]? = some t → args[j]? = some v → Value.okWide Try.prog W .any base t v := hval0
  have hW' := hW
  obtain ⟨p, q, hA0, hV, rfl, hfz, hnd⟩ := hW
  have hA : DataW.TrodAll enc Try.prog W 0 (fun _ => true) true Try.f3.params.toList args.toList ds p := hA0
  rw [Try.params3] at hA hval
  obtain ⟨v0, vs0, d0, ds0, p0, q0, hargs, rfl, rfl, h0, r0⟩ := trodAll_cons hA
  obtain ⟨v1, vs1, d1, ds1, p1, q1, rfl, rfl, rfl, h1, r1⟩ := trodAll_cons r0
  obtain ⟨rfl, rfl, rfl⟩ := trodAll_nil r1
  obtain rfl : args = #[v0, v1] := by cases args; simp_all
  obtain ⟨rfl, rfl⟩ := trodVars_none hV
  have lt0 : ∀ x ∈ p0, x.block < W.heap.size := by obtain ⟨m, hm⟩ := h0; exact DataW.trod_lt m _ _ _ hm
  obtain ⟨u0, e0, rfl, sl0, m0_0⟩ := open_B (hval 0 24 v0 rfl rfl) h0
  have lt1 : ∀ x ∈ p1, x.block < W.heap.size := by obtain ⟨m, hm⟩ := h1; exact DataW.trod_lt m _ _ _ hm
  obtain ⟨u1, e1, rfl, sl1, m1_0⟩ := open_B (hval 1 24 v1 rfl rfl) h1
  clear hA0 hval0
  refine (lawDiv_walk u0 u1 e0 e1 W sl0 sl1 m0_0 m1_0).mono fun e W' ⟨he, bel⟩ => ?_
  subst he
  exact ⟨_, rfl, _, _, _, [], _, [], hW', trodAll_mk1 (shut_bool Try.underlying4 _), (trodAll_cons_mk (Below.trod laidOut (by kernel_rfl) (of_decide_eq_true (by kernel_rfl)) h0 bel lt0) (trodAll_cons_mk (Below.trod laidOut (by kernel_rfl) (of_decide_eq_true (by kernel_rfl)) h1 bel lt1) trodAll_mk0)), rfl, bel.frame _, fun h => by cases h⟩

theorem div_holds_c0 : (Rows.fnExactDivBigRow.wf (OpenSpec.ofChange Rows.fnExactDivBigSpec)) = true := by kernel_rfl
theorem div_holds_c1 : (laidOutB Try.pinned.checked.prog) = true := by kernel_rfl
theorem div_holds_c2 : (mapsRowed Try.pinned.checked.prog) = true := by kernel_rfl
theorem div_holds_c3 : (Try.f3.params.all (Try.pinned.checked.prog.readableRec ·)) = true := by kernel_rfl
theorem div_holds_c4 : (namedTie Try.pinned.checked.prog Rows.fnExactDivBigRow.named Rows.fnExactDivBigSpec.vars) = true := by kernel_rfl
theorem div_holds_c5 : (Rows.fnExactDivBigRow.stops == []) = true := by kernel_rfl
theorem div_holds_c6 : (Try.pinned.checked.prog.stops == []) = true := by kernel_rfl
theorem div_holds_c7 : (Rows.fnExactDivBigRow.knobs == []) = true := by kernel_rfl
theorem div_holds_c8 : (Try.pinned.checked.prog.stopKnobs == []) = true := by kernel_rfl
theorem div_holds_c9 : (Rows.fnExactDivBigRow.inPlace == Try.pinned.checked.prog.inPlace 3) = true := by kernel_rfl
theorem div_holds_c10 : (Rows.fnExactDivBigRow.unfollowed == Try.pinned.checked.prog.unfollowed 3) = true := by kernel_rfl
theorem div_holds_c11 : (Rows.fnExactDivBigRow.recurses == Try.pinned.checked.prog.recurses 3) = true := by kernel_rfl
theorem div_holds_c12 : (Rows.fnExactDivBigRow.named == Try.pinned.checked.prog.varsNamed 3) = true := by kernel_rfl
theorem div_holds_c13 : (Rows.fnExactDivBigRow.maps == (Try.f3.params.toList ++ Rows.fnExactDivBigSpec.plain.varTypes Try.pinned.checked.prog).any (Try.pinned.checked.prog.mapsRec ·)) = true := by kernel_rfl
theorem div_holds_c14 : (Rows.fnExactDivBigRow.ifaces == (Try.f3.params.toList ++ Rows.fnExactDivBigSpec.plain.varTypes Try.pinned.checked.prog).any (Try.pinned.checked.prog.ifacesRec ·)) = true := by kernel_rfl
theorem div_holds_c15 : (Rows.fnExactDivBigRow.mapsOut == Try.pinned.checked.prog.mapsAmong Try.f3.resultTypes.toList) = true := by kernel_rfl
theorem div_holds_c16 : (Rows.fnExactDivBigRow.loops == (Try.f3.params.toList ++ Rows.fnExactDivBigSpec.plain.varTypes Try.pinned.checked.prog).any (Try.pinned.checked.prog.loopsFrom ·)) = true := by kernel_rfl
theorem div_holds_c17 : (Rows.fnExactDivBigRow.wideKeys == (Try.f3.params.toList ++ Rows.fnExactDivBigSpec.plain.varTypes Try.pinned.checked.prog ++ Try.f3.resultTypes.toList).any (Try.pinned.checked.prog.wideKeysFrom ·)) = true := by kernel_rfl
theorem div_holds_c18 : (Rows.fnExactDivBigSpec.vars.all (Try.pinned.checked.prog.varReadable ·)) = true := by kernel_rfl
theorem div_holds_c19 : (Try.f3.resultTypes.all (fun t => Try.pinned.checked.prog.readableRec t && decide (t < Try.pinned.checked.prog.types.size))) = true := by kernel_rfl
theorem div_holds_c20 : (Rows.fnExactDivBigRow.ifacesOut == Try.f3.resultTypes.toList.any (Try.pinned.checked.prog.ifacesRec ·)) = true := by kernel_rfl
theorem div_holds_c21 : (Rows.fnExactDivBigRow.loopsOut == Try.f3.resultTypes.toList.any (Try.pinned.checked.prog.loopsFrom ·)) = true := by kernel_rfl
theorem div_holds_c22 : (Rows.fnExactDivBigRow.plainKeys == Try.pinned.checked.prog.plainKeys) = true := by kernel_rfl
theorem div_holds_c23 : (Rows.fnExactDivBigRow.shortTexts.isNone) = true := by kernel_rfl
theorem div_holds_c24 : (Try.pinned.checked.prog.stopsHeard) = true := by kernel_rfl
theorem div_holds_c25 : (Try.pinned.checked.prog.mayEnter) = true := io_enter
theorem div_holds_c26 : (Rows.fnExactDivBigRow.lifted == Try.pinned.checked.prog.liftsFinal) = true := by rw [io_lifts]; kernel_rfl
theorem div_holds_c27 : (Try.pinned.checked.prog.make == some Rows.fnExactDivBigRow.make) = true := by rw [io_make]; kernel_rfl
theorem div_holds_c28 : (Rows.fnExactDivBigRow.kinds == (if Rows.fnExactDivBigRow.domain.isEmpty then [] else Try.f3.params.toList.map fun t => match Try.pinned.checked.prog.underlying t with | some (.int k) => some k | _ => none)) = true := by kernel_rfl
theorem div_holds_c29 : (Rows.fnExactDivBigRow.pinned == Rows.fnExactDivBigRow.pinnedBy) = true := by kernel_rfl
theorem div_holds_c30 : (Rows.fnExactDivBigRow.veiled == (Try.f3.params.toList ++ Rows.fnExactDivBigSpec.plain.varTypes Try.pinned.checked.prog ++ Try.f3.resultTypes.toList).any (Try.pinned.checked.prog.veiledRec ·)) = true := by kernel_rfl
theorem div_holds_c31 : (Rows.fnExactDivBigRow.veiledFits Try.pinned.checked.prog Try.f3.params.toList (Try.f3.params.toList ++ Rows.fnExactDivBigSpec.plain.varTypes Try.pinned.checked.prog ++ Try.f3.resultTypes.toList)) = true := by kernel_rfl
theorem div_holds_and {a b : Bool} (h : a = true) (k : b = true) : (a && b) = true := by rw [h, k]; rfl
theorem div_holds_closed : joinedFacts Try.pinned.checked.prog 3 Try.f3 Rows.fnExactDivBigSpec Rows.fnExactDivBigRow = true := (div_holds_and (div_holds_and (div_holds_and (div_holds_and (div_holds_and (div_holds_and (div_holds_and (div_holds_and (div_holds_and (div_holds_and (div_holds_and (div_holds_and (div_holds_and (div_holds_and (div_holds_and (div_holds_and (div_holds_and (div_holds_and (div_holds_and (div_holds_and (div_holds_and (div_holds_and (div_holds_and (div_holds_and (div_holds_and (div_holds_and (div_holds_and (div_holds_and (div_holds_and (div_holds_and (div_holds_and div_holds_c0 div_holds_c1) div_holds_c2) div_holds_c3) div_holds_c4) div_holds_c5) div_holds_c6) div_holds_c7) div_holds_c8) div_holds_c9) div_holds_c10) div_holds_c11) div_holds_c12) div_holds_c13) div_holds_c14) div_holds_c15) div_holds_c16) div_holds_c17) div_holds_c18) div_holds_c19) div_holds_c20) div_holds_c21) div_holds_c22) div_holds_c23) div_holds_c24) div_holds_c25) div_holds_c26) div_holds_c27) div_holds_c28) div_holds_c29) div_holds_c30) div_holds_c31)
theorem div_holds_named : Try.pinned.checked.prog.funcNamed Rows.fnExactDivBigRow.func = some 3 := by kernel_rfl
theorem div_holds_inst : Try.f3.isInstance Try.pinned.checked.prog Rows.fnExactDivBigRow.origin Rows.fnExactDivBigRow.targs := of_decide_eq_true (by kernel_rfl)
theorem div_holds_wrap : Try.f3.isWrapper Try.pinned.checked.prog Rows.fnExactDivBigRow.wrapper Rows.fnExactDivBigRow.mainSum := by unfold Func.isWrapper; first | (rw [if_pos (by decide +kernel)]; kernel_rfl) | (rw [if_neg (by decide +kernel)]; exact ⟨rfl, rfl⟩)
theorem div_holds : Rows.FnExactDivBigSaid :=
  OpenClaim.holds_of_wide 3 Try.f3 rfl rfl rfl rfl rfl rfl rfl ⟨rfl, rfl, rfl, rfl, rfl⟩ rfl rfl rfl rfl rfl div_holds_named Try.func3 div_holds_closed div_holds_inst div_holds_wrap
    (fun os started H enc _ => div_holds_lifted os started H enc)
#print axioms div_holds
end Go.Proofs.Ytfmjbpfnhgkhkaa

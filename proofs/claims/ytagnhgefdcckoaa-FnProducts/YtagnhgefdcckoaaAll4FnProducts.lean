/- The law FnProducts returns true for every argument and leaves it as it was: the given statement FnProductsSaid. No condition. -/
import Derived.Test.YtagnhgefdcckoaaOpen
import Derived.Test.YtagnhgefdcckoaaPackC7
import Derived.Test.YtagnhgefdcckoaaAll3FnProducts
import Derived.Test.YtagnhgefdcckoaaIo
namespace Go.Proofs.Ytagnhgefdcckoaa
open Go.ChangeShapes Go.WideShapes Go.ChangeAt Go.RowKit Go.Joins
set_option linter.unusedVariables false
set_option maxRecDepth 100000
set_option linter.unusedSimpArgs false

theorem byte_wf {n : Int} (h : (Lit.int .u8 n).wf = true) : 0 ≤ n ∧ n ≤ 255 := by
  simp [Lit.wf, IntKind.min, IntKind.max, IntKind.signed, IntKind.bits] at h
  omega
theorem open_Y {H : Type} {enc : TypeId × Value → H} {W : World} {r : Reach} {b0 : Nat} {v : Value} {d : DataW H} {p : List MemPlace}
    (hv : Value.okWide Try.prog W r b0 22 v) (h : DataW.Trod enc Try.prog W 0 (fun _ => true) true 22 v d p) :
    ∃ (a : Option Addr) (n c : Nat), v = .slice a n c ∧ ArY W a n := by
  obtain ⟨a, n, c, rfl⟩ := okWide_slice Try.underlying22 hv
  obtain ⟨fuel, hf⟩ := h
  rcases open_ints Try.underlying22 Try.underlying5 (by kernel_rfl) hf with ⟨hcs, _⟩ | ⟨x, l, c', zs, hcs, _, hl, hm, hz, _, hcell, hwz⟩
  · simp only [Value.cells, List.cons.injEq, Value.slice.injEq, and_true] at hcs
    obtain ⟨rfl, rfl, rfl⟩ := hcs
    exact ⟨none, 0, 0, rfl, .inl rfl, Nat.zero_le _⟩
  · simp only [Value.cells, List.cons.injEq, Value.slice.injEq, and_true] at hcs
    obtain ⟨rfl, rfl, rfl⟩ := hcs
    simp only [if_true] at hz
    refine ⟨some x, n, c, rfl, ?_, ?_⟩
    · by_cases h0 : n = 0
      · exact .inl h0
      · obtain ⟨b, off, spot⟩ := x
        have hc := hcell 0 (by omega)
        have hspot : spot = none := by simpa [Addr.add] using World.cell?_spot hc
        subst hspot
        refine .inr ⟨b, off, rfl, ?_, fun i hi => ?_⟩
        · exact World.block_lt_of_cell? _ _ hc
        · have h1 := hcell i (by omega)
          have hi2 : i < zs.length := by omega
          have hw := byte_wf (hwz (zs.getD i 0) (by rw [List.getD_eq_getElem?_getD, List.getElem?_eq_getElem hi2]; exact List.getElem_mem _))
          refine ⟨zs.getD i 0, hw.1, hw.2, ?_⟩
          by_cases hi0 : i = 0
          · subst hi0; simpa [Addr.add] using h1
          · simpa [Addr.add, hi0] using h1
    · have := Nat.le_trans hl hm
      unfold maxLen at this
      omega
end Go.Proofs.Ytagnhgefdcckoaa
namespace Go.Proofs.Ytagnhgefdcckoaa
open Go.ChangeShapes Go.WideShapes Go.ChangeAt Go.RowKit Go.Joins
set_option linter.unusedVariables false
set_option maxRecDepth 100000
set_option linter.unusedSimpArgs false

set_option maxRecDepth 100000 in
theorem prod_holds_lifted (os : Os) (started : os.Started) (H : Type) (enc : TypeId × Value → H) :
    ReturnsInHanded {} Try.checked os 3 .any (Rows.fnProductsSpec.pre6 enc Try.prog Try.f3 Rows.fnProductsRow.domain false) (Rows.fnProductsSpec.post enc Try.prog Try.f3 false true false false) := by
  refine returnsInHanded_of_change (C := Try.checked) own started (by kernel_rfl) Try.func3
    (ChangeSpec.witness6 (enc := enc) (C := Try.checked) false ⟨#[], #[.slice none 0 0, .slice none 0 0], []⟩ 8 (by kernel_rfl) (by kernel_rfl) (by kernel_rfl) (by kernel_rfl)) ?_
  intro W base args ds gs before hval0 hW hcnd _
  have hval : ∀ (j : Nat) t v, Try.f3.params[j]? = some t → args[j]? = some v → Value.okWide Try.prog W .any base t v := hval0
  have hW' := hW
  obtain ⟨p, q, hA0, hV, rfl, hfz, hnd⟩ := hW
  have hA : DataW.TrodAll enc Try.prog W 0 (fun _ => true) true Try.f3.params.toList args.toList ds p := hA0
  rw [Try.params3] at hA hval
  obtain ⟨v0, vs0, d0, ds0, p0, q0, hargs, rfl, rfl, h0, r0⟩ := trodAll_cons hA
  obtain ⟨v1, vs1, d1, ds1, p1, q1, rfl, rfl, rfl, h1, r1⟩ := trodAll_cons r0
  obtain ⟨rfl, rfl, rfl⟩ := trodAll_nil r1
  obtain rfl : args = #[v0, v1] := by cases args; simp_all
  obtain ⟨rfl, rfl⟩ := trodVars_none hV
  have lt0 : ∀ x ∈ p0, x.block < W.heap.size := by obtain ⟨m, hm⟩ := h0; exact DataW.trod_lt m _ _ _ hm
  obtain ⟨a0, n0, c0, rfl, y0⟩ := open_Y (hval 0 22 v0 rfl rfl) h0
  have lt1 : ∀ x ∈ p1, x.block < W.heap.size := by obtain ⟨m, hm⟩ := h1; exact DataW.trod_lt m _ _ _ hm
  obtain ⟨a1, n1, c1, rfl, y1⟩ := open_Y (hval 1 22 v1 rfl rfl) h1
  clear hA0 hval0
  refine (prod_walk a0 a1 n0 n1 c0 c1 W y0 y1).mono fun e W' ⟨he, bel⟩ => ?_
  subst he
  exact ⟨_, rfl, _, _, _, [], _, [], hW', trodAll_mk1 (shut_bool Try.underlying4 _), (trodAll_cons_mk (Below.trod laidOut (by kernel_rfl) (of_decide_eq_true (by kernel_rfl)) h0 bel lt0) (trodAll_cons_mk (Below.trod laidOut (by kernel_rfl) (of_decide_eq_true (by kernel_rfl)) h1 bel lt1) trodAll_mk0)), rfl, bel.frame _, fun h => by cases h⟩

theorem prod_holds_c0 : (Rows.fnProductsRow.wf (OpenSpec.ofChange Rows.fnProductsSpec)) = true := by kernel_rfl
theorem prod_holds_c1 : (laidOutB Try.pinned.checked.prog) = true := by kernel_rfl
theorem prod_holds_c2 : (mapsRowed Try.pinned.checked.prog) = true := by kernel_rfl
theorem prod_holds_c3 : (Try.f3.params.all (Try.pinned.checked.prog.readableRec ·)) = true := by kernel_rfl
theorem prod_holds_c4 : (namedTie Try.pinned.checked.prog Rows.fnProductsRow.named Rows.fnProductsSpec.vars) = true := by kernel_rfl
theorem prod_holds_c5 : (Rows.fnProductsRow.stops == []) = true := by kernel_rfl
theorem prod_holds_c6 : (Try.pinned.checked.prog.stops == []) = true := by kernel_rfl
theorem prod_holds_c7 : (Rows.fnProductsRow.knobs == []) = true := by kernel_rfl
theorem prod_holds_c8 : (Try.pinned.checked.prog.stopKnobs == []) = true := by kernel_rfl
theorem prod_holds_c9 : (Rows.fnProductsRow.inPlace == Try.pinned.checked.prog.inPlace 3) = true := by kernel_rfl
theorem prod_holds_c10 : (Rows.fnProductsRow.unfollowed == Try.pinned.checked.prog.unfollowed 3) = true := by kernel_rfl
theorem prod_holds_c11 : (Rows.fnProductsRow.recurses == Try.pinned.checked.prog.recurses 3) = true := by kernel_rfl
theorem prod_holds_c12 : (Rows.fnProductsRow.named == Try.pinned.checked.prog.varsNamed 3) = true := by kernel_rfl
theorem prod_holds_c13 : (Rows.fnProductsRow.maps == (Try.f3.params.toList ++ Rows.fnProductsSpec.plain.varTypes Try.pinned.checked.prog).any (Try.pinned.checked.prog.mapsRec ·)) = true := by kernel_rfl
theorem prod_holds_c14 : (Rows.fnProductsRow.ifaces == (Try.f3.params.toList ++ Rows.fnProductsSpec.plain.varTypes Try.pinned.checked.prog).any (Try.pinned.checked.prog.ifacesRec ·)) = true := by kernel_rfl
theorem prod_holds_c15 : (Rows.fnProductsRow.mapsOut == Try.pinned.checked.prog.mapsAmong Try.f3.resultTypes.toList) = true := by kernel_rfl
theorem prod_holds_c16 : (Rows.fnProductsRow.loops == (Try.f3.params.toList ++ Rows.fnProductsSpec.plain.varTypes Try.pinned.checked.prog).any (Try.pinned.checked.prog.loopsFrom ·)) = true := by kernel_rfl
theorem prod_holds_c17 : (Rows.fnProductsRow.wideKeys == (Try.f3.params.toList ++ Rows.fnProductsSpec.plain.varTypes Try.pinned.checked.prog ++ Try.f3.resultTypes.toList).any (Try.pinned.checked.prog.wideKeysFrom ·)) = true := by kernel_rfl
theorem prod_holds_c18 : (Rows.fnProductsSpec.vars.all (Try.pinned.checked.prog.varReadable ·)) = true := by kernel_rfl
theorem prod_holds_c19 : (Try.f3.resultTypes.all (fun t => Try.pinned.checked.prog.readableRec t && decide (t < Try.pinned.checked.prog.types.size))) = true := by kernel_rfl
theorem prod_holds_c20 : (Rows.fnProductsRow.ifacesOut == Try.f3.resultTypes.toList.any (Try.pinned.checked.prog.ifacesRec ·)) = true := by kernel_rfl
theorem prod_holds_c21 : (Rows.fnProductsRow.loopsOut == Try.f3.resultTypes.toList.any (Try.pinned.checked.prog.loopsFrom ·)) = true := by kernel_rfl
theorem prod_holds_c22 : (Rows.fnProductsRow.plainKeys == Try.pinned.checked.prog.plainKeys) = true := by kernel_rfl
theorem prod_holds_c23 : (Rows.fnProductsRow.shortTexts.isNone) = true := by kernel_rfl
theorem prod_holds_c24 : (Try.pinned.checked.prog.stopsHeard) = true := by kernel_rfl
theorem prod_holds_c25 : (Try.pinned.checked.prog.mayEnter) = true := io_enter
theorem prod_holds_c26 : (Rows.fnProductsRow.lifted == Try.pinned.checked.prog.liftsFinal) = true := by rw [io_lifts]; kernel_rfl
theorem prod_holds_c27 : (Try.pinned.checked.prog.make == some Rows.fnProductsRow.make) = true := by rw [io_make]; kernel_rfl
theorem prod_holds_c28 : (Rows.fnProductsRow.kinds == (if Rows.fnProductsRow.domain.isEmpty then [] else Try.f3.params.toList.map fun t => match Try.pinned.checked.prog.underlying t with | some (.int k) => some k | _ => none)) = true := by kernel_rfl
theorem prod_holds_c29 : (Rows.fnProductsRow.pinned == Rows.fnProductsRow.pinnedBy) = true := by kernel_rfl
theorem prod_holds_c30 : (Rows.fnProductsRow.veiled == (Try.f3.params.toList ++ Rows.fnProductsSpec.plain.varTypes Try.pinned.checked.prog ++ Try.f3.resultTypes.toList).any (Try.pinned.checked.prog.veiledRec ·)) = true := by kernel_rfl
theorem prod_holds_c31 : (Rows.fnProductsRow.veiledFits Try.pinned.checked.prog Try.f3.params.toList (Try.f3.params.toList ++ Rows.fnProductsSpec.plain.varTypes Try.pinned.checked.prog ++ Try.f3.resultTypes.toList)) = true := by kernel_rfl
theorem prod_holds_and {a b : Bool} (h : a = true) (k : b = true) : (a && b) = true := by rw [h, k]; rfl
theorem prod_holds_closed : joinedFacts Try.pinned.checked.prog 3 Try.f3 Rows.fnProductsSpec Rows.fnProductsRow = true := (prod_holds_and (prod_holds_and (prod_holds_and (prod_holds_and (prod_holds_and (prod_holds_and (prod_holds_and (prod_holds_and (prod_holds_and (prod_holds_and (prod_holds_and (prod_holds_and (prod_holds_and (prod_holds_and (prod_holds_and (prod_holds_and (prod_holds_and (prod_holds_and (prod_holds_and (prod_holds_and (prod_holds_and (prod_holds_and (prod_holds_and (prod_holds_and (prod_holds_and (prod_holds_and (prod_holds_and (prod_holds_and (prod_holds_and (prod_holds_and (prod_holds_and prod_holds_c0 prod_holds_c1) prod_holds_c2) prod_holds_c3) prod_holds_c4) prod_holds_c5) prod_holds_c6) prod_holds_c7) prod_holds_c8) prod_holds_c9) prod_holds_c10) prod_holds_c11) prod_holds_c12) prod_holds_c13) prod_holds_c14) prod_holds_c15) prod_holds_c16) prod_holds_c17) prod_holds_c18) prod_holds_c19) prod_holds_c20) prod_holds_c21) prod_holds_c22) prod_holds_c23) prod_holds_c24) prod_holds_c25) prod_holds_c26) prod_holds_c27) prod_holds_c28) prod_holds_c29) prod_holds_c30) prod_holds_c31)
theorem prod_holds_named : Try.pinned.checked.prog.funcNamed Rows.fnProductsRow.func = some 3 := by kernel_rfl
theorem prod_holds_inst : Try.f3.isInstance Try.pinned.checked.prog Rows.fnProductsRow.origin Rows.fnProductsRow.targs := of_decide_eq_true (by kernel_rfl)
theorem prod_holds_wrap : Try.f3.isWrapper Try.pinned.checked.prog Rows.fnProductsRow.wrapper Rows.fnProductsRow.mainSum := by unfold Func.isWrapper; first | (rw [if_pos (by decide +kernel)]; kernel_rfl) | (rw [if_neg (by decide +kernel)]; exact ⟨rfl, rfl⟩)
theorem prod_holds : Rows.FnProductsSaid :=
  OpenClaim.holds_of_wide 3 Try.f3 rfl rfl rfl rfl rfl rfl rfl ⟨rfl, rfl, rfl, rfl, rfl⟩ rfl rfl rfl rfl rfl prod_holds_named Try.func3 prod_holds_closed prod_holds_inst prod_holds_wrap
    (fun os started H enc _ => prod_holds_lifted os started H enc)
#print axioms prod_holds
end Go.Proofs.Ytagnhgefdcckoaa

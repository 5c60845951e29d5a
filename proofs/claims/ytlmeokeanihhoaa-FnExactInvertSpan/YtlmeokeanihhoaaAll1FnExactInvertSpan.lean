/- The law FnExactInvertSpan returns true for every argument and leaves it as it was: the given statement FnExactInvertSpanSaid. No condition. -/
import Derived.Test.YtlmeokeanihhoaaOpenQ
import Derived.Test.YtlmeokeanihhoaaPkInvertSpan
import Derived.Test.YtlmeokeanihhoaaIo
namespace Go.Proofs.Ytlmeokeanihhoaa
open Go.ChangeShapes Go.WideShapes Go.ChangeAt Go.RowKit Go.Joins
set_option linter.unusedVariables false
set_option maxRecDepth 100000
set_option linter.unusedSimpArgs false

theorem Try.cells38 : Try.prog.cellsOf 38 = 8 := by kernel_rfl
theorem array_8 {α : Type} {cs : Array α} (h : cs.size = 8) : ∃ a b c d e f g k, cs = #[a, b, c, d, e, f, g, k] := by
  obtain ⟨l⟩ := cs
  match l, h with
  | [a, b, c, d, e, f, g, k], _ => exact ⟨a, b, c, d, e, f, g, k, rfl⟩

theorem open_four {H : Type} {enc : TypeId × Value → H} {W : World} {n : Nat} {c0 c1 c2 c3 : Value} {y : DataW H × List MemPlace}
    (h : DataW.trod enc Try.prog W 0 (fun _ => true) true n 26 [c0, c1, c2, c3] = some y) :
    ∃ (q : QV) (e : QD), c0 = .bool q.num.g ∧ c1 = .slice q.num.a q.num.n q.num.c ∧ c2 = .bool q.den.g ∧ c3 = .slice q.den.a q.den.n q.den.c ∧ AllSl W [(q.num, e.num), (q.den, e.den)] ∧ q.num.n ≤ maxLen ∧ q.den.n ≤ maxLen := by
  obtain ⟨y0, y1, n', hx, _, h0, h1⟩ := trod_struct2 Try.underlying26 h
  have k0 : DataW.trod enc Try.prog W 0 (fun _ => true) true n' 24 [c0, c1] = some y0 := by simpa [Try.cells24] using h0
  have k1 : DataW.trod enc Try.prog W 0 (fun _ => true) true n' 24 [c2, c3] = some y1 := by simpa [Try.cells24] using h1
  obtain ⟨z0, z1, n1, _, _, p0, p1⟩ := trod_struct2 Try.underlying24 k0
  obtain ⟨z2, z3, n2, _, _, p2, p3⟩ := trod_struct2 Try.underlying24 k1
  have c_b : Try.prog.cellsOf 4 = 1 := by kernel_rfl
  have c_s : Try.prog.cellsOf 22 = 1 := by kernel_rfl
  obtain ⟨g, a, m, c, xs, rfl, rfl, s1, s2, s3, _⟩ := open_two (c0 := c0) (c1 := c1) (by simpa [c_b] using p0) (by simpa [c_s] using p1)
  obtain ⟨g', b, q, e, us, rfl, rfl, t1, t2, t3, _⟩ := open_two (c0 := c2) (c1 := c3) (by simpa [c_b] using p2) (by simpa [c_s] using p3)
  exact ⟨⟨⟨g, a, m, c⟩, ⟨g', b, q, e⟩⟩, ⟨⟨g, xs⟩, ⟨g', us⟩⟩, rfl, rfl, rfl, rfl, AllSl.cons ⟨rfl, s1, s2⟩ (AllSl.cons ⟨rfl, t1, t2⟩ (AllSl.nil _)), s3, t3⟩

theorem open_S {H : Type} {enc : TypeId × Value → H} {W : World} {r : Reach} {b0 : Nat} {v : Value} {d : DataW H} {p : List MemPlace}
    (hv : Value.okWide Try.prog W r b0 38 v) (h : DataW.Trod enc Try.prog W 0 (fun _ => true) true 38 v d p) :
    ∃ (s : SV) (e : SD), v = .agg #[.bool s.lo.num.g, .slice s.lo.num.a s.lo.num.n s.lo.num.c, .bool s.lo.den.g, .slice s.lo.den.a s.lo.den.n s.lo.den.c, .bool s.hi.num.g, .slice s.hi.num.a s.hi.num.n s.hi.num.c, .bool s.hi.den.g, .slice s.hi.den.a s.hi.den.n s.hi.den.c] ∧ AllSl W [(s.lo.num, e.lo.num), (s.lo.den, e.lo.den), (s.hi.num, e.hi.num), (s.hi.den, e.hi.den)] ∧ s.lo.num.n ≤ maxLen ∧ s.lo.den.n ≤ maxLen ∧ s.hi.num.n ≤ maxLen ∧ s.hi.den.n ≤ maxLen := by
  obtain ⟨cs, rfl, hsz⟩ := okWide_struct Try.underlying38 hv
  obtain ⟨c0, c1, c2, c3, c4, c5, c6, c7, rfl⟩ := array_8 (hsz.trans Try.cells38)
  obtain ⟨fuel, hf⟩ := h
  obtain ⟨y0, y1, n, hx, _, h0, h1⟩ := trod_struct2 Try.underlying38 hf
  have k0 : DataW.trod enc Try.prog W 0 (fun _ => true) true n 26 [c0, c1, c2, c3] = some y0 := by simpa [Value.cells, Try.cells26] using h0
  have k1 : DataW.trod enc Try.prog W 0 (fun _ => true) true n 26 [c4, c5, c6, c7] = some y1 := by simpa [Value.cells, Try.cells26] using h1
  obtain ⟨q, e, rfl, rfl, rfl, rfl, s1, m1, m2⟩ := open_four k0
  obtain ⟨q', e', rfl, rfl, rfl, rfl, s2, m3, m4⟩ := open_four k1
  exact ⟨⟨q, q'⟩, ⟨e, e'⟩, rfl, AllSl.cons s1.head (AllSl.cons s1.tail.head (AllSl.cons s2.head (AllSl.cons s2.tail.head (AllSl.nil _)))), m1, m2, m3, m4⟩
end Go.Proofs.Ytlmeokeanihhoaa
namespace Go.Proofs.Ytlmeokeanihhoaa
open Go.ChangeShapes Go.WideShapes Go.ChangeAt Go.RowKit Go.Joins
set_option linter.unusedVariables false
set_option maxRecDepth 100000
set_option linter.unusedSimpArgs false

set_option maxRecDepth 100000 in
theorem invS_holds_lifted (os : Os) (started : os.Started) (H : Type) (enc : TypeId × Value → H) :
    ReturnsInHanded {} Try.checked os 11 .any (Rows.fnExactInvertSpanSpec.pre6 enc Try.prog Try.f11 Rows.fnExactInvertSpanRow.domain false) (Rows.fnExactInvertSpanSpec.post enc Try.prog Try.f11 false true false false) := by
  refine returnsInHanded_of_change (C := Try.checked) own started (by kernel_rfl) Try.func11
    (ChangeSpec.witness6 (enc := enc) (C := Try.checked) false ⟨#[], #[.agg #[.bool false, .slice none 0 0, .bool false, .slice none 0 0, .bool false, .slice none 0 0, .bool false, .slice none 0 0]], []⟩ 8 (by kernel_rfl) (by kernel_rfl) (by kernel_rfl) (by kernel_rfl)) ?_
  intro W base args ds gs before hval0 hW hcnd _
  have hval : ∀ (j : Nat) t v, Try.f11.params[j]? = some t → args[j]? = some v → Value.okWide Try.prog W .any base t v := hval0
  have hW' := hW
  obtain ⟨p, q, hA0, hV, rfl, hfz, hnd⟩ := hW
  have hA : DataW.TrodAll enc Try.prog W 0 (fun _ => true) true Try.f11.params.toList args.toList ds p := hA0
  rw [Try.params11] at hA hval
  obtain ⟨v0, vs0, d0, ds0, p0, q0, hargs, rfl, rfl, h0, r0⟩ := trodAll_cons hA
  obtain ⟨rfl, rfl, rfl⟩ := trodAll_nil r0
  obtain rfl : args = #[v0] := by cases args; simp_all
  obtain ⟨rfl, rfl⟩ := trodVars_none hV
  have lt0 : ∀ x ∈ p0, x.block < W.heap.size := by obtain ⟨m, hm⟩ := h0; exact DataW.trod_lt m _ _ _ hm
  obtain ⟨u0, e0, rfl, sl0, m0_0, m0_1, m0_2, m0_3⟩ := open_S (hval 0 38 v0 rfl rfl) h0
  clear hA0 hval0
  refine (lawInvS_walk u0 e0 W sl0 m0_0 m0_1 m0_2 m0_3).mono fun e W' ⟨he, bel⟩ => ?_
  subst he
  exact ⟨_, rfl, _, _, _, [], _, [], hW', trodAll_mk1 (shut_bool Try.underlying4 _), (trodAll_cons_mk (Below.trod laidOut (by kernel_rfl) (of_decide_eq_true (by kernel_rfl)) h0 bel lt0) trodAll_mk0), rfl, bel.frame _, fun h => by cases h⟩

theorem invS_holds_c0 : (Rows.fnExactInvertSpanRow.wf (OpenSpec.ofChange Rows.fnExactInvertSpanSpec)) = true := by kernel_rfl
theorem invS_holds_c1 : (laidOutB Try.pinned.checked.prog) = true := by kernel_rfl
theorem invS_holds_c2 : (mapsRowed Try.pinned.checked.prog) = true := by kernel_rfl
theorem invS_holds_c3 : (Try.f11.params.all (Try.pinned.checked.prog.readableRec ·)) = true := by kernel_rfl
theorem invS_holds_c4 : (namedTie Try.pinned.checked.prog Rows.fnExactInvertSpanRow.named Rows.fnExactInvertSpanSpec.vars) = true := by kernel_rfl
theorem invS_holds_c5 : (Rows.fnExactInvertSpanRow.stops == []) = true := by kernel_rfl
theorem invS_holds_c6 : (Try.pinned.checked.prog.stops == []) = true := by kernel_rfl
theorem invS_holds_c7 : (Rows.fnExactInvertSpanRow.knobs == []) = true := by kernel_rfl
theorem invS_holds_c8 : (Try.pinned.checked.prog.stopKnobs == []) = true := by kernel_rfl
theorem invS_holds_c9 : (Rows.fnExactInvertSpanRow.inPlace == Try.pinned.checked.prog.inPlace 11) = true := by kernel_rfl
theorem invS_holds_c10 : (Rows.fnExactInvertSpanRow.unfollowed == Try.pinned.checked.prog.unfollowed 11) = true := by kernel_rfl
theorem invS_holds_c11 : (Rows.fnExactInvertSpanRow.recurses == Try.pinned.checked.prog.recurses 11) = true := by kernel_rfl
theorem invS_holds_c12 : (Rows.fnExactInvertSpanRow.named == Try.pinned.checked.prog.varsNamed 11) = true := by kernel_rfl
theorem invS_holds_c13 : (Rows.fnExactInvertSpanRow.maps == (Try.f11.params.toList ++ Rows.fnExactInvertSpanSpec.plain.varTypes Try.pinned.checked.prog).any (Try.pinned.checked.prog.mapsRec ·)) = true := by kernel_rfl
theorem invS_holds_c14 : (Rows.fnExactInvertSpanRow.ifaces == (Try.f11.params.toList ++ Rows.fnExactInvertSpanSpec.plain.varTypes Try.pinned.checked.prog).any (Try.pinned.checked.prog.ifacesRec ·)) = true := by kernel_rfl
theorem invS_holds_c15 : (Rows.fnExactInvertSpanRow.mapsOut == Try.pinned.checked.prog.mapsAmong Try.f11.resultTypes.toList) = true := by kernel_rfl
theorem invS_holds_c16 : (Rows.fnExactInvertSpanRow.loops == (Try.f11.params.toList ++ Rows.fnExactInvertSpanSpec.plain.varTypes Try.pinned.checked.prog).any (Try.pinned.checked.prog.loopsFrom ·)) = true := by kernel_rfl
theorem invS_holds_c17 : (Rows.fnExactInvertSpanRow.wideKeys == (Try.f11.params.toList ++ Rows.fnExactInvertSpanSpec.plain.varTypes Try.pinned.checked.prog ++ Try.f11.resultTypes.toList).any (Try.pinned.checked.prog.wideKeysFrom ·)) = true := by kernel_rfl
theorem invS_holds_c18 : (Rows.fnExactInvertSpanSpec.vars.all (Try.pinned.checked.prog.varReadable ·)) = true := by kernel_rfl
theorem invS_holds_c19 : (Try.f11.resultTypes.all (fun t => Try.pinned.checked.prog.readableRec t && decide (t < Try.pinned.checked.prog.types.size))) = true := by kernel_rfl
theorem invS_holds_c20 : (Rows.fnExactInvertSpanRow.ifacesOut == Try.f11.resultTypes.toList.any (Try.pinned.checked.prog.ifacesRec ·)) = true := by kernel_rfl
theorem invS_holds_c21 : (Rows.fnExactInvertSpanRow.loopsOut == Try.f11.resultTypes.toList.any (Try.pinned.checked.prog.loopsFrom ·)) = true := by kernel_rfl
theorem invS_holds_c22 : (Rows.fnExactInvertSpanRow.plainKeys == Try.pinned.checked.prog.plainKeys) = true := by kernel_rfl
theorem invS_holds_c23 : (Rows.fnExactInvertSpanRow.shortTexts.isNone) = true := by kernel_rfl
theorem invS_holds_c24 : (Try.pinned.checked.prog.stopsHeard) = true := by kernel_rfl
theorem invS_holds_c25 : (Try.pinned.checked.prog.mayEnter) = true := io_enter
theorem invS_holds_c26 : (Rows.fnExactInvertSpanRow.lifted == Try.pinned.checked.prog.liftsFinal) = true := by rw [io_lifts]; kernel_rfl
theorem invS_holds_c27 : (Try.pinned.checked.prog.make == some Rows.fnExactInvertSpanRow.make) = true := by rw [io_make]; kernel_rfl
theorem invS_holds_c28 : (Rows.fnExactInvertSpanRow.kinds == (if Rows.fnExactInvertSpanRow.domain.isEmpty then [] else Try.f11.params.toList.map fun t => match Try.pinned.checked.prog.underlying t with | some (.int k) => some k | _ => none)) = true := by kernel_rfl
theorem invS_holds_c29 : (Rows.fnExactInvertSpanRow.pinned == Rows.fnExactInvertSpanRow.pinnedBy) = true := by kernel_rfl
theorem invS_holds_c30 : (Rows.fnExactInvertSpanRow.veiled == (Try.f11.params.toList ++ Rows.fnExactInvertSpanSpec.plain.varTypes Try.pinned.checked.prog ++ Try.f11.resultTypes.toList).any (Try.pinned.checked.prog.veiledRec ·)) = true := by kernel_rfl
theorem invS_holds_c31 : (Rows.fnExactInvertSpanRow.veiledFits Try.pinned.checked.prog Try.f11.params.toList (Try.f11.params.toList ++ Rows.fnExactInvertSpanSpec.plain.varTypes Try.pinned.checked.prog ++ Try.f11.resultTypes.toList)) = true := by kernel_rfl
theorem invS_holds_and {a b : Bool} (h : a = true) (k : b = true) : (a && b) = true := by rw [h, k]; rfl
theorem invS_holds_closed : joinedFacts Try.pinned.checked.prog 11 Try.f11 Rows.fnExactInvertSpanSpec Rows.fnExactInvertSpanRow = true := (invS_holds_and (invS_holds_and (invS_holds_and (invS_holds_and (invS_holds_and (invS_holds_and (invS_holds_and (invS_holds_and (invS_holds_and (invS_holds_and (invS_holds_and (invS_holds_and (invS_holds_and (invS_holds_and (invS_holds_and (invS_holds_and (invS_holds_and (invS_holds_and (invS_holds_and (invS_holds_and (invS_holds_and (invS_holds_and (invS_holds_and (invS_holds_and (invS_holds_and (invS_holds_and (invS_holds_and (invS_holds_and (invS_holds_and (invS_holds_and (invS_holds_and invS_holds_c0 invS_holds_c1) invS_holds_c2) invS_holds_c3) invS_holds_c4) invS_holds_c5) invS_holds_c6) invS_holds_c7) invS_holds_c8) invS_holds_c9) invS_holds_c10) invS_holds_c11) invS_holds_c12) invS_holds_c13) invS_holds_c14) invS_holds_c15) invS_holds_c16) invS_holds_c17) invS_holds_c18) invS_holds_c19) invS_holds_c20) invS_holds_c21) invS_holds_c22) invS_holds_c23) invS_holds_c24) invS_holds_c25) invS_holds_c26) invS_holds_c27) invS_holds_c28) invS_holds_c29) invS_holds_c30) invS_holds_c31)
theorem invS_holds_named : Try.pinned.checked.prog.funcNamed Rows.fnExactInvertSpanRow.func = some 11 := by kernel_rfl
theorem invS_holds_inst : Try.f11.isInstance Try.pinned.checked.prog Rows.fnExactInvertSpanRow.origin Rows.fnExactInvertSpanRow.targs := of_decide_eq_true (by kernel_rfl)
theorem invS_holds_wrap : Try.f11.isWrapper Try.pinned.checked.prog Rows.fnExactInvertSpanRow.wrapper Rows.fnExactInvertSpanRow.mainSum := by unfold Func.isWrapper; first | (rw [if_pos (by decide +kernel)]; kernel_rfl) | (rw [if_neg (by decide +kernel)]; exact ⟨rfl, rfl⟩)
theorem invS_holds : Rows.FnExactInvertSpanSaid :=
  OpenClaim.holds_of_wide 11 Try.f11 rfl rfl rfl rfl rfl rfl rfl ⟨rfl, rfl, rfl, rfl, rfl⟩ rfl rfl rfl rfl rfl invS_holds_named Try.func11 invS_holds_closed invS_holds_inst invS_holds_wrap
    (fun os started H enc _ => invS_holds_lifted os started H enc)
#print axioms invS_holds
end Go.Proofs.Ytlmeokeanihhoaa

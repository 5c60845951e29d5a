/- The law FnExactMulSpan returns true for every argument and leaves it as it was: the given statement FnExactMulSpanSaid. No condition. -/
import Derived.Test.YtlmeokeanihhoaaOpenQ
import Derived.Test.YtlmeokeanihhoaaPkMulSpan
import Derived.Test.YtlmeokeanihhoaaIo
namespace Go.Proofs.Ytlmeokeanihhoaa
open Go.ChangeShapes Go.WideShapes Go.ChangeAt Go.RowKit Go.Joins
set_option linter.unusedVariables false
set_option maxRecDepth 100000
set_option linter.unusedSimpArgs false

theorem Try.cells38 : Try.prog.cellsOf 38 = 8 := by kernel_rfl
theorem array_8 {α : Type} {cs : Array α} (h : cs.size = 8) : ∃ a b c d e f g k, cs = #[a, b, c, d, e, f, g, k] := by
  obtain ⟨l⟩ := cs
  match l, h with
  | [a, b, c, d, e, f, g, k], _ => exact ⟨a, b, c, d, e, f, g, k, rfl⟩

theorem open_four {H : Type} {enc : TypeId × Value → H} {W : World} {n : Nat} {c0 c1 c2 c3 : Value} {y : DataW H × List MemPlace}
    (h : DataW.trod enc Try.prog W 0 (fun _ => true) true n 26 [c0, c1, c2, c3] = some y) :
    ∃ (q : QV) (e : QD), c0 = .bool q.num.g ∧ c1 = .slice q.num.a q.num.n q.num.c ∧ c2 = .bool q.den.g ∧ c3 = .slice q.den.a q.den.n q.den.c ∧ AllSl W [(q.num, e.num), (q.den, e.den)] ∧ q.num.n ≤ maxLen ∧ q.den.n ≤ maxLen := by
  obtain ⟨y0, y1, n', hx, _, h0, h1⟩ := trod_struct2 Try.underlying26 h
  have k0 : DataW.trod enc Try.prog W 0 (fun _ => true) true n' 24 [c0, c1] = some y0 := by simpa [Try.cells24] using h0
  have k1 : DataW.trod enc Try.prog W 0 (fun _ => true) true n' 24 [c2, c3] = some y1 := by simpa [Try.cells24] using h1
  obtain ⟨z0, z1, n1, _, _, p0, p1⟩ := trod_struct2 Try.underlying24 k0
  obtain ⟨z2, z3, n2, _, _, p2, p3⟩ := trod_struct2 Try.underlying24 k1
  have c_b : Try.prog.cellsOf 4 = 1 := by kernel_rfl
  have c_s : Try.prog.cellsOf 22 = 1 := by kernel_rfl
  obtain ⟨g, a, m, c, xs, rfl, rfl, s1, s2, s3, _⟩ := open_two (c0 := c0) (c1 := c1) (by simpa [c_b] using p0) (by simpa [c_s] using p1)
  obtain ⟨g', b, q, e, us, rfl, rfl, t1, t2, t3, _⟩ := open_two (c0 := c2) (c1 := c3) (by simpa [c_b] using p2) (by simpa [c_s] using p3)
  exact ⟨⟨⟨g, a, m, c⟩, ⟨g', b, q, e⟩⟩, ⟨⟨g, xs⟩, ⟨g', us⟩⟩, rfl, rfl, rfl, rfl, AllSl.cons ⟨rfl, s1, s2⟩ (AllSl.cons ⟨rfl, t1, t2⟩ (AllSl.nil _)), s3, t3⟩

theorem open_S {H : Type} {enc : TypeId × Value → H} {W : World} {r : Reach} {b0 : Nat} {v : Value} {d : DataW H} {p : List MemPlace}
    (hv : Value.okWide Try.prog W r b0 38 v) (h : DataW.Trod enc Try.prog W 0 (fun _ => true) true 38 v d p) :
    ∃ (s : SV) (e : SD), v = .agg #[.bool s.lo.num.g, .slice s.lo.num.a s.lo.num.n s.lo.num.c, .bool s.lo.den.g, .slice s.lo.den.a s.lo.den.n s.lo.den.c, .bool s.hi.num.g, .slice s.hi.num.a s.hi.num.n s.hi.num.c, .bool s.hi.den.g, .slice s.hi.den.a s.hi.den.n s.hi.den.c] ∧ AllSl W [(s.lo.num, e.lo.num), (s.lo.den, e.lo.den), (s.hi.num, e.hi.num), (s.hi.den, e.hi.den)] ∧ s.lo.num.n ≤ maxLen ∧ s.lo.den.n ≤ maxLen ∧ s.hi.num.n ≤ maxLen ∧ s.hi.den.n ≤ maxLen := by
  obtain ⟨cs, rfl, hsz⟩ := okWide_struct Try.underlying38 hv
  obtain ⟨c0, c1, c2, c3, c4, c5, c6, c7, rfl⟩ := array_8 (hsz.trans Try.cells38)
  obtain ⟨fuel, hf⟩ := h
  obtain ⟨y0, y1, n, hx, _, h0, h1⟩ := trod_struct2 Try.underlying38 hf
  have k0 : DataW.trod enc Try.prog W 0 (fun _ => true) true n 26 [c0, c1, c2, c3] = some y0 := by simpa [Value.cells, Try.cells26] using h0
  have k1 : DataW.trod enc Try.prog W 0 (fun _ => true) true n 26 [c4, c5, c6, c7] = some y1 := by simpa [Value.cells, Try.cells26] using h1
  obtain ⟨q, e, rfl, rfl, rfl, rfl, s1, m1, m2⟩ := open_four k0
  obtain ⟨q', e', rfl, rfl, rfl, rfl, s2, m3, m4⟩ := open_four k1
  exact ⟨⟨q, q'⟩, ⟨e, e'⟩, rfl, AllSl.cons s1.head (AllSl.cons s1.tail.head (AllSl.cons s2.head (AllSl.cons s2.tail.head (AllSl.nil _)))), m1, m2, m3, m4⟩
end Go.Proofs.Ytlmeokeanihhoaa
namespace Go.Proofs.Ytlmeokeanihhoaa
open Go.ChangeShapes Go.WideShapes Go.ChangeAt Go.RowKit Go.Joins
set_option linter.unusedVariables false
set_option maxRecDepth 100000
set_option linter.unusedSimpArgs false

set_option maxRecDepth 100000 in
theorem mulS_holds_lifted (os : Os) (started : os.Started) (H : Type) (enc : TypeId × Value → H) :
    ReturnsInHanded {} Try.checked os 10 .any (Rows.fnExactMulSpanSpec.pre6 enc Try.prog Try.f10 Rows.fnExactMulSpanRow.domain false) (Rows.fnExactMulSpanSpec.post enc Try.prog Try.f10 false true false false) := by
  refine returnsInHanded_of_change (C := Try.checked) own started (by kernel_rfl) Try.func10
    (ChangeSpec.witness6 (enc := enc) (C := Try.checked) false ⟨#[], #[.agg #[.bool false, .slice none 0 0, .bool false, .slice none 0 0, .bool false, .slice none 0 0, .bool false, .slice none 0 0], .agg #[.bool false, .slice none 0 0, .bool false, .slice none 0 0, .bool false, .slice none 0 0, .bool false, .slice none 0 0]], []⟩ 8 (by kernel_rfl) (by kernel_rfl) (by kernel_rfl) (by kernel_rfl)) ?_
  intro W base args ds gs before hval0 hW hcnd _
  have hval : ∀ (j : Nat) t v, Try.f10.params[j]? = some t → args[j]? = some v → Value.okWide Try.prog W .any base t v := hval0
  have hW' := hW
  obtain ⟨p, q, hA0, hV, rfl, hfz, hnd⟩ := hW
  have hA : DataW.TrodAll enc Try.prog W 0 (fun _ => true) true Try.f10.params.toList args.toList ds p := hA0
  rw [Try.params10] at hA hval
  obtain ⟨v0, vs0, d0, ds0, p0, q0, hargs, rfl, rfl, h0, r0⟩ := trodAll_cons hA
  obtain ⟨v1, vs1, d1, ds1, p1, q1, rfl, rfl, rfl, h1, r1⟩ := trodAll_cons r0
  obtain ⟨rfl, rfl, rfl⟩ := trodAll_nil r1
  obtain rfl : args = #[v0, v1] := by cases args; simp_all
  obtain ⟨rfl, rfl⟩ := trodVars_none hV
  have lt0 : ∀ x ∈ p0, x.block < W.heap.size := by obtain ⟨m, hm⟩ := h0; exact DataW.trod_lt m _ _ _ hm
  obtain ⟨u0, e0, rfl, sl0, m0_0, m0_1, m0_2, m0_3⟩ := open_S (hval 0 38 v0 rfl rfl) h0
  have lt1 : ∀ x ∈ p1, x.block < W.heap.size := by obtain ⟨m, hm⟩ := h1; exact DataW.trod_lt m _ _ _ hm
  obtain ⟨u1, e1, rfl, sl1, m1_0, m1_1, m1_2, m1_3⟩ := open_S (hval 1 38 v1 rfl rfl) h1
  clear hA0 hval0
  refine (lawMulS_walk u0 u1 e0 e1 W sl0 sl1 m0_0 m0_1 m0_2 m0_3 m1_0 m1_1 m1_2 m1_3).mono fun e W' ⟨he, bel⟩ => ?_
  subst he
  exact ⟨_, rfl, _, _, _, [], _, [], hW', trodAll_mk1 (shut_bool Try.underlying4 _), (trodAll_cons_mk (Below.trod laidOut (by kernel_rfl) (of_decide_eq_true (by kernel_rfl)) h0 bel lt0) (trodAll_cons_mk (Below.trod laidOut (by kernel_rfl) (of_decide_eq_true (by kernel_rfl)) h1 bel lt1) trodAll_mk0)), rfl, bel.frame _, fun h => by cases h⟩

theorem mulS_holds_c0 : (Rows.fnExactMulSpanRow.wf (OpenSpec.ofChange Rows.fnExactMulSpanSpec)) = true := by kernel_rfl
theorem mulS_holds_c1 : (laidOutB Try.pinned.checked.prog) = true := by kernel_rfl
theorem mulS_holds_c2 : (mapsRowed Try.pinned.checked.prog) = true := by kernel_rfl
theorem mulS_holds_c3 : (Try.f10.params.all (Try.pinned.checked.prog.readableRec ·)) = true := by kernel_rfl
theorem mulS_holds_c4 : (namedTie Try.pinned.checked.prog Rows.fnExactMulSpanRow.named Rows.fnExactMulSpanSpec.vars) = true := by kernel_rfl
theorem mulS_holds_c5 : (Rows.fnExactMulSpanRow.stops == []) = true := by kernel_rfl
theorem mulS_holds_c6 : (Try.pinned.checked.prog.stops == []) = true := by kernel_rfl
theorem mulS_holds_c7 : (Rows.fnExactMulSpanRow.knobs == []) = true := by kernel_rfl
theorem mulS_holds_c8 : (Try.pinned.checked.prog.stopKnobs == []) = true := by kernel_rfl
theorem mulS_holds_c9 : (Rows.fnExactMulSpanRow.inPlace == Try.pinned.checked.prog.inPlace 10) = true := by kernel_rfl
theorem mulS_holds_c10 : (Rows.fnExactMulSpanRow.unfollowed == Try.pinned.checked.prog.unfollowed 10) = true := by kernel_rfl
theorem mulS_holds_c11 : (Rows.fnExactMulSpanRow.recurses == Try.pinned.checked.prog.recurses 10) = true := by kernel_rfl
theorem mulS_holds_c12 : (Rows.fnExactMulSpanRow.named == Try.pinned.checked.prog.varsNamed 10) = true := by kernel_rfl
theorem mulS_holds_c13 : (Rows.fnExactMulSpanRow.maps == (Try.f10.params.toList ++ Rows.fnExactMulSpanSpec.plain.varTypes Try.pinned.checked.prog).any (Try.pinned.checked.prog.mapsRec ·)) = true := by kernel_rfl
theorem mulS_holds_c14 : (Rows.fnExactMulSpanRow.ifaces == (Try.f10.params.toList ++ Rows.fnExactMulSpanSpec.plain.varTypes Try.pinned.checked.prog).any (Try.pinned.checked.prog.ifacesRec ·)) = true := by kernel_rfl
theorem mulS_holds_c15 : (Rows.fnExactMulSpanRow.mapsOut == Try.pinned.checked.prog.mapsAmong Try.f10.resultTypes.toList) = true := by kernel_rfl
theorem mulS_holds_c16 : (Rows.fnExactMulSpanRow.loops == (Try.f10.params.toList ++ Rows.fnExactMulSpanSpec.plain.varTypes Try.pinned.checked.prog).any (Try.pinned.checked.prog.loopsFrom ·)) = true := by kernel_rfl
theorem mulS_holds_c17 : (Rows.fnExactMulSpanRow.wideKeys == (Try.f10.params.toList ++ Rows.fnExactMulSpanSpec.plain.varTypes Try.pinned.checked.prog ++ Try.f10.resultTypes.toList).any (Try.pinned.checked.prog.wideKeysFrom ·)) = true := by kernel_rfl
theorem mulS_holds_c18 : (Rows.fnExactMulSpanSpec.vars.all (Try.pinned.checked.prog.varReadable ·)) = true := by kernel_rfl
theorem mulS_holds_c19 : (Try.f10.resultTypes.all (fun t => Try.pinned.checked.prog.readableRec t && decide (t < Try.pinned.checked.prog.types.size))) = true := by kernel_rfl
theorem mulS_holds_c20 : (Rows.fnExactMulSpanRow.ifacesOut == Try.f10.resultTypes.toList.any (Try.pinned.checked.prog.ifacesRec ·)) = true := by kernel_rfl
theorem mulS_holds_c21 : (Rows.fnExactMulSpanRow.loopsOut == Try.f10.resultTypes.toList.any (Try.pinned.checked.prog.loopsFrom ·)) = true := by kernel_rfl
theorem mulS_holds_c22 : (Rows.fnExactMulSpanRow.plainKeys == Try.pinned.checked.prog.plainKeys) = true := by kernel_rfl
theorem mulS_holds_c23 : (Rows.fnExactMulSpanRow.shortTexts.isNone) = true := by kernel_rfl
theorem mulS_holds_c24 : (Try.pinned.checked.prog.stopsHeard) = true := by kernel_rfl
theorem mulS_holds_c25 : (Try.pinned.checked.prog.mayEnter) = true := io_enter
theorem mulS_holds_c26 : (Rows.fnExactMulSpanRow.lifted == Try.pinned.checked.prog.liftsFinal) = true := by rw [io_lifts]; kernel_rfl
theorem mulS_holds_c27 : (Try.pinned.checked.prog.make == some Rows.fnExactMulSpanRow.make) = true := by rw [io_make]; kernel_rfl
theorem mulS_holds_c28 : (Rows.fnExactMulSpanRow.kinds == (if Rows.fnExactMulSpanRow.domain.isEmpty then [] else Try.f10.params.toList.map fun t => match Try.pinned.checked.prog.underlying t with | some (.int k) => some k | _ => none)) = true := by kernel_rfl
theorem mulS_holds_c29 : (Rows.fnExactMulSpanRow.pinned == Rows.fnExactMulSpanRow.pinnedBy) = true := by kernel_rfl
theorem mulS_holds_c30 : (Rows.fnExactMulSpanRow.veiled == (Try.f10.params.toList ++ Rows.fnExactMulSpanSpec.plain.varTypes Try.pinned.checked.prog ++ Try.f10.resultTypes.toList).any (Try.pinned.checked.prog.veiledRec ·)) = true := by kernel_rfl
theorem mulS_holds_c31 : (Rows.fnExactMulSpanRow.veiledFits Try.pinned.checked.prog Try.f10.params.toList (Try.f10.params.toList ++ Rows.fnExactMulSpanSpec.plain.varTypes Try.pinned.checked.prog ++ Try.f10.resultTypes.toList)) = true := by kernel_rfl
theorem mulS_holds_and {a b : Bool} (h : a = true) (k : b = true) : (a && b) = true := by rw [h, k]; rfl
theorem mulS_holds_closed : joinedFacts Try.pinned.checked.prog 10 Try.f10 Rows.fnExactMulSpanSpec Rows.fnExactMulSpanRow = true := (mulS_holds_and (mulS_holds_and (mulS_holds_and (mulS_holds_and (mulS_holds_and (mulS_holds_and (mulS_holds_and (mulS_holds_and (mulS_holds_and (mulS_holds_and (mulS_holds_and (mulS_holds_and (mulS_holds_and (mulS_holds_and (mulS_holds_and (mulS_holds_and (mulS_holds_and (mulS_holds_and (mulS_holds_and (mulS_holds_and (mulS_holds_and (mulS_holds_and (mulS_holds_and (mulS_holds_and (mulS_holds_and (mulS_holds_and (mulS_holds_and (mulS_holds_and (mulS_holds_and (mulS_holds_and (mulS_holds_and mulS_holds_c0 mulS_holds_c1) mulS_holds_c2) mulS_holds_c3) mulS_holds_c4) mulS_holds_c5) mulS_holds_c6) mulS_holds_c7) mulS_holds_c8) mulS_holds_c9) mulS_holds_c10) mulS_holds_c11) mulS_holds_c12) mulS_holds_c13) mulS_holds_c14) mulS_holds_c15) mulS_holds_c16) mulS_holds_c17) mulS_holds_c18) mulS_holds_c19) mulS_holds_c20) mulS_holds_c21) mulS_holds_c22) mulS_holds_c23) mulS_holds_c24) mulS_holds_c25) mulS_holds_c26) mulS_holds_c27) mulS_holds_c28) mulS_holds_c29) mulS_holds_c30) mulS_holds_c31)
theorem mulS_holds_named : Try.pinned.checked.prog.funcNamed Rows.fnExactMulSpanRow.func = some 10 := by kernel_rfl
theorem mulS_holds_inst : Try.f10.isInstance Try.pinned.checked.prog Rows.fnExactMulSpanRow.origin Rows.fnExactMulSpanRow.targs := of_decide_eq_true (by kernel_rfl)
theorem mulS_holds_wrap : Try.f10.isWrapper Try.pinned.checked.prog Rows.fnExactMulSpanRow.wrapper Rows.fnExactMulSpanRow.mainSum := by unfold Func.isWrapper; first | (rw [if_pos (by decide +kernel)]; kernel_rfl) | (rw [if_neg (by decide +kernel)]; exact ⟨rfl, rfl⟩)
theorem mulS_holds : Rows.FnExactMulSpanSaid :=
  OpenClaim.holds_of_wide 10 Try.f10 rfl rfl rfl rfl rfl rfl rfl ⟨rfl, rfl, rfl, rfl, rfl⟩ rfl rfl rfl rfl rfl mulS_holds_named Try.func10 mulS_holds_closed mulS_holds_inst mulS_holds_wrap
    (fun os started H enc _ => mulS_holds_lifted os started H enc)
#print axioms mulS_holds
end Go.Proofs.Ytlmeokeanihhoaa

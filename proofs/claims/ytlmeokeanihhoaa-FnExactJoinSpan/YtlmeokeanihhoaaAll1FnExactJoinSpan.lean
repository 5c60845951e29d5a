/- The law FnExactJoinSpan returns true for every argument and leaves it as it was: the given statement FnExactJoinSpanSaid. No condition. -/
import Derived.Test.YtlmeokeanihhoaaOpenQ
import Derived.Test.YtlmeokeanihhoaaPkJoinSpan
import Derived.Test.YtlmeokeanihhoaaIo
namespace Go.Proofs.Ytlmeokeanihhoaa
open Go.ChangeShapes Go.WideShapes Go.ChangeAt Go.RowKit Go.Joins
set_option linter.unusedVariables false
set_option maxRecDepth 100000
set_option linter.unusedSimpArgs false

theorem Try.cells38 : Try.prog.cellsOf 38 = 8 := by kernel_rfl
theorem array_8 {α : Type} {cs : Array α} (h : cs.size = 8) : ∃ a b c d e f g k, cs = #[a, b, c, d, e, f, g, k] := by
  obtain ⟨l⟩ := cs
  match l, h with
  | [a, b, c, d, e, f, g, k], _ => exact ⟨a, b, c, d, e, f, g, k, rfl⟩

theorem open_four {H : Type} {enc : TypeId × Value → H} {W : World} {n : Nat} {c0 c1 c2 c3 : Value} {y : DataW H × List MemPlace}
    (h : DataW.trod enc Try.prog W 0 (fun _ => true) true n 26 [c0, c1, c2, c3] = some y) :
    ∃ (q : QV) (e : QD), c0 = .bool q.num.g ∧ c1 = .slice q.num.a q.num.n q.num.c ∧ c2 = .bool q.den.g ∧ c3 = .slice q.den.a q.den.n q.den.c ∧ AllSl W [(q.num, e.num), (q.den, e.den)] ∧ q.num.n ≤ maxLen ∧ q.den.n ≤ maxLen := by
  obtain ⟨y0, y1, n', hx, _, h0, h1⟩ := trod_struct2 Try.underlying26 h
  have k0 : DataW.trod enc Try.prog W 0 (fun _ => true) true n' 24 [c0, c1] = some y0 := by simpa [Try.cells24] using h0
  have k1 : DataW.trod enc Try.prog W 0 (fun _ => true) true n' 24 [c2, c3] = some y1 := by simpa [Try.cells24] using h1
  obtain ⟨z0, z1, n1, _, _, p0, p1⟩ := trod_struct2 Try.underlying24 k0
  obtain ⟨z2, z3, n2, _, _, p2, p3⟩ := trod_struct2 Try.underlying24 k1
  have c_b : Try.prog.cellsOf 4 = 1 := by kernel_rfl
  have c_s : Try.prog.cellsOf 22 = 1 := by kernel_rfl
  obtain ⟨g, a, m, c, xs, rfl, rfl, s1, s2, s3, _⟩ := open_two (c0 := c0) (c1 := c1) (by simpa [c_b] using p0) (by simpa [c_s] using p1)
  obtain ⟨g', b, q, e, us, rfl, rfl, t1, t2, t3, _⟩ := open_two (c0 := c2) (c1 := c3) (by simpa [c_b] using p2) (by simpa [c_s] using p3)
  exact ⟨⟨⟨g, a, m, c⟩, ⟨g', b, q, e⟩⟩, ⟨⟨g, xs⟩, ⟨g', us⟩⟩, rfl, rfl, rfl, rfl, AllSl.cons ⟨rfl, s1, s2⟩ (AllSl.cons ⟨rfl, t1, t2⟩ (AllSl.nil _)), s3, t3⟩

theorem open_S {H : Type} {enc : TypeId × Value → H} {W : World} {r : Reach} {b0 : Nat} {v : Value} {d : DataW H} {p : List MemPlace}
    (hv : Value.okWide Try.prog W r b0 38 v) (h : DataW.Trod enc Try.prog W 0 (fun _ => true) true 38 v d p) :
    ∃ (s : SV) (e : SD), v = .agg #[.bool s.lo.num.g, .slice s.lo.num.a s.lo.num.n s.lo.num.c, .bool s.lo.den.g, .slice s.lo.den.a s.lo.den.n s.lo.den.c, .bool s.hi.num.g, .slice s.hi.num.a s.hi.num.n s.hi.num.c, .bool s.hi.den.g, .slice s.hi.den.a s.hi.den.n s.hi.den.c] ∧ AllSl W [(s.lo.num, e.lo.num), (s.lo.den, e.lo.den), (s.hi.num, e.hi.num), (s.hi.den, e.hi.den)] ∧ s.lo.num.n ≤ maxLen ∧ s.lo.den.n ≤ maxLen ∧ s.hi.num.n ≤ maxLen ∧ s.hi.den.n ≤ maxLen := by
  obtain ⟨cs, rfl, hsz⟩ := okWide_struct Try.underlying38 hv
  obtain ⟨c0, c1, c2, c3, c4, c5, c6, c7, rfl⟩ := array_8 (hsz.trans Try.cells38)
  obtain ⟨fuel, hf⟩ := h
  obtain ⟨y0, y1, n, hx, _, h0, h1⟩ := trod_struct2 Try.underlying38 hf
  have k0 : DataW.trod enc Try.prog W 0 (fun _ => true) true n 26 [c0, c1, c2, c3] = some y0 := by simpa [Value.cells, Try.cells26] using h0
  have k1 : DataW.trod enc Try.prog W 0 (fun _ => true) true n 26 [c4, c5, c6, c7] = some y1 := by simpa [Value.cells, Try.cells26] using h1
  obtain ⟨q, e, rfl, rfl, rfl, rfl, s1, m1, m2⟩ := open_four k0
  obtain ⟨q', e', rfl, rfl, rfl, rfl, s2, m3, m4⟩ := open_four k1
  exact ⟨⟨q, q'⟩, ⟨e, e'⟩, rfl, AllSl.cons s1.head (AllSl.cons s1.tail.head (AllSl.cons s2.head (AllSl.cons s2.tail.head (AllSl.nil _)))), m1, m2, m3, m4⟩
end Go.Proofs.Ytlmeokeanihhoaa
namespace Go.Proofs.Ytlmeokeanihhoaa
open Go.ChangeShapes Go.WideShapes Go.ChangeAt Go.RowKit Go.Joins
set_option linter.unusedVariables false
set_option maxRecDepth 100000
set_option linter.unusedSimpArgs false

set_option maxRecDepth 100000 in
theorem joinS_holds_lifted (os : Os) (started : os.Started) (H : Type) (enc : TypeId × Value → H) :
    ReturnsInHanded {} Try.checked os 12 .any (Rows.fnExactJoinSpanSpec.pre6 enc Try.prog Try.f12 Rows.fnExactJoinSpanRow.domain false) (Rows.fnExactJoinSpanSpec.post enc Try.prog Try.f12 false true false false) := by
  refine returnsInHanded_of_change (C := Try.checked) own started (by kernel_rfl) Try.func12
    (ChangeSpec.witness6 (enc := enc) (C := Try.checked) false ⟨#[], #[.agg #[.bool false, .slice none 0 0, .bool false, .slice none 0 0, .bool false, .slice none 0 0, .bool false, .slice none 0 0], .agg #[.bool false, .slice none 0 0, .bool false, .slice none 0 0, .bool false, .slice none 0 0, .bool false, .slice none 0 0]], []⟩ 8 (by kernel_rfl) (by kernel_rfl) (by kernel_rfl) (by kernel_rfl)) ?_
  intro W base args ds gs before hval0 hW hcnd _
  have hval : ∀ (j : Nat) t v, Try.f12.params[j]? = some t → args[j]? = some v → Value.okWide Try.prog W .any base t v := hval0
  have hW' := hW
  obtain ⟨p, q, hA0, hV, rfl, hfz, hnd⟩ := hW
  have hA : DataW.TrodAll enc Try.prog W 0 (fun _ => true) true Try.f12.params.toList args.toList ds p := hA0
  rw [Try.params12] at hA hval
  obtain ⟨v0, vs0, d0, ds0, p0, q0, hargs, rfl, rfl, h0, r0⟩ := trodAll_cons hA
  obtain ⟨v1, vs1, d1, ds1, p1, q1, rfl, rfl, rfl, h1, r1⟩ := trodAll_cons r0
  obtain ⟨rfl, rfl, rfl⟩ := trodAll_nil r1
  obtain rfl : args = #[v0, v1] := by cases args; simp_all
  obtain ⟨rfl, rfl⟩ := trodVars_none hV
  have lt0 : ∀ x ∈ p0, x.block < W.heap.size := by obtain ⟨m, hm⟩ := h0; exact DataW.trod_lt m _ _ _ hm
  obtain ⟨u0, e0, rfl, sl0, m0_0, m0_1, m0_2, m0_3⟩ := open_S (hval 0 38 v0 rfl rfl) h0
  have lt1 : ∀ x ∈ p1, x.block < W.heap.size := by obtain ⟨m, hm⟩ := h1; exact DataW.trod_lt m _ _ _ hm
  obtain ⟨u1, e1, rfl, sl1, m1_0, m1_1, m1_2, m1_3⟩ := open_S (hval 1 38 v1 rfl rfl) h1
  clear hA0 hval0
  refine (lawJoinS_walk u0 u1 e0 e1 W sl0 sl1 m0_0 m0_1 m0_2 m0_3 m1_0 m1_1 m1_2 m1_3).mono fun e W' ⟨he, bel⟩ => ?_
  subst he
  exact ⟨_, rfl, _, _, _, [], _, [], hW', trodAll_mk1 (shut_bool Try.underlying4 _), (trodAll_cons_mk (Below.trod laidOut (by kernel_rfl) (of_decide_eq_true (by kernel_rfl)) h0 bel lt0) (trodAll_cons_mk (Below.trod laidOut (by kernel_rfl) (of_decide_eq_true (by kernel_rfl)) h1 bel lt1) trodAll_mk0)), rfl, bel.frame _, fun h => by cases h⟩

theorem joinS_holds_c0 : (Rows.fnExactJoinSpanRow.wf (OpenSpec.ofChange Rows.fnExactJoinSpanSpec)) = true := by kernel_rfl
theorem joinS_holds_c1 : (laidOutB Try.pinned.checked.prog) = true := by kernel_rfl
theorem joinS_holds_c2 : (mapsRowed Try.pinned.checked.prog) = true := by kernel_rfl
theorem joinS_holds_c3 : (Try.f12.params.all (Try.pinned.checked.prog.readableRec ·)) = true := by kernel_rfl
theorem joinS_holds_c4 : (namedTie Try.pinned.checked.prog Rows.fnExactJoinSpanRow.named Rows.fnExactJoinSpanSpec.vars) = true := by kernel_rfl
theorem joinS_holds_c5 : (Rows.fnExactJoinSpanRow.stops == []) = true := by kernel_rfl
theorem joinS_holds_c6 : (Try.pinned.checked.prog.stops == []) = true := by kernel_rfl
theorem joinS_holds_c7 : (Rows.fnExactJoinSpanRow.knobs == []) = true := by kernel_rfl
theorem joinS_holds_c8 : (Try.pinned.checked.prog.stopKnobs == []) = true := by kernel_rfl
theorem joinS_holds_c9 : (Rows.fnExactJoinSpanRow.inPlace == Try.pinned.checked.prog.inPlace 12) = true := by kernel_rfl
theorem joinS_holds_c10 : (Rows.fnExactJoinSpanRow.unfollowed == Try.pinned.checked.prog.unfollowed 12) = true := by kernel_rfl
theorem joinS_holds_c11 : (Rows.fnExactJoinSpanRow.recurses == Try.pinned.checked.prog.recurses 12) = true := by kernel_rfl
theorem joinS_holds_c12 : (Rows.fnExactJoinSpanRow.named == Try.pinned.checked.prog.varsNamed 12) = true := by kernel_rfl
theorem joinS_holds_c13 : (Rows.fnExactJoinSpanRow.maps == (Try.f12.params.toList ++ Rows.fnExactJoinSpanSpec.plain.varTypes Try.pinned.checked.prog).any (Try.pinned.checked.prog.mapsRec ·)) = true := by kernel_rfl
theorem joinS_holds_c14 : (Rows.fnExactJoinSpanRow.ifaces == (Try.f12.params.toList ++ Rows.fnExactJoinSpanSpec.plain.varTypes Try.pinned.checked.prog).any (Try.pinned.checked.prog.ifacesRec ·)) = true := by kernel_rfl
theorem joinS_holds_c15 : (Rows.fnExactJoinSpanRow.mapsOut == Try.pinned.checked.prog.mapsAmong Try.f12.resultTypes.toList) = true := by kernel_rfl
theorem joinS_holds_c16 : (Rows.fnExactJoinSpanRow.loops == (Try.f12.params.toList ++ Rows.fnExactJoinSpanSpec.plain.varTypes Try.pinned.checked.prog).any (Try.pinned.checked.prog.loopsFrom ·)) = true := by kernel_rfl
theorem joinS_holds_c17 : (Rows.fnExactJoinSpanRow.wideKeys == (Try.f12.params.toList ++ Rows.fnExactJoinSpanSpec.plain.varTypes Try.pinned.checked.prog ++ Try.f12.resultTypes.toList).any (Try.pinned.checked.prog.wideKeysFrom ·)) = true := by kernel_rfl
theorem joinS_holds_c18 : (Rows.fnExactJoinSpanSpec.vars.all (Try.pinned.checked.prog.varReadable ·)) = true := by kernel_rfl
theorem joinS_holds_c19 : (Try.f12.resultTypes.all (fun t => Try.pinned.checked.prog.readableRec t && decide (t < Try.pinned.checked.prog.types.size))) = true := by kernel_rfl
theorem joinS_holds_c20 : (Rows.fnExactJoinSpanRow.ifacesOut == Try.f12.resultTypes.toList.any (Try.pinned.checked.prog.ifacesRec ·)) = true := by kernel_rfl
theorem joinS_holds_c21 : (Rows.fnExactJoinSpanRow.loopsOut == Try.f12.resultTypes.toList.any (Try.pinned.checked.prog.loopsFrom ·)) = true := by kernel_rfl
theorem joinS_holds_c22 : (Rows.fnExactJoinSpanRow.plainKeys == Try.pinned.checked.prog.plainKeys) = true := by kernel_rfl
theorem joinS_holds_c23 : (Rows.fnExactJoinSpanRow.shortTexts.isNone) = true := by kernel_rfl
theorem joinS_holds_c24 : (Try.pinned.checked.prog.stopsHeard) = true := by kernel_rfl
theorem joinS_holds_c25 : (Try.pinned.checked.prog.mayEnter) = true := io_enter
theorem joinS_holds_c26 : (Rows.fnExactJoinSpanRow.lifted == Try.pinned.checked.prog.liftsFinal) = true := by rw [io_lifts]; kernel_rfl
theorem joinS_holds_c27 : (Try.pinned.checked.prog.make == some Rows.fnExactJoinSpanRow.make) = true := by rw [io_make]; kernel_rfl
theorem joinS_holds_c28 : (Rows.fnExactJoinSpanRow.kinds == (if Rows.fnExactJoinSpanRow.domain.isEmpty then [] else Try.f12.params.toList.map fun t => match Try.pinned.checked.prog.underlying t with | some (.int k) => some k | _ => none)) = true := by kernel_rfl
theorem joinS_holds_c29 : (Rows.fnExactJoinSpanRow.pinned == Rows.fnExactJoinSpanRow.pinnedBy) = true := by kernel_rfl
theorem joinS_holds_c30 : (Rows.fnExactJoinSpanRow.veiled == (Try.f12.params.toList ++ Rows.fnExactJoinSpanSpec.plain.varTypes Try.pinned.checked.prog ++ Try.f12.resultTypes.toList).any (Try.pinned.checked.prog.veiledRec ·)) = true := by kernel_rfl
theorem joinS_holds_c31 : (Rows.fnExactJoinSpanRow.veiledFits Try.pinned.checked.prog Try.f12.params.toList (Try.f12.params.toList ++ Rows.fnExactJoinSpanSpec.plain.varTypes Try.pinned.checked.prog ++ Try.f12.resultTypes.toList)) = true := by kernel_rfl
theorem joinS_holds_and {a b : Bool} (h : a = true) (k : b = true) : (a && b) = true := by rw [h, k]; rfl
theorem joinS_holds_closed : joinedFacts Try.pinned.checked.prog 12 Try.f12 Rows.fnExactJoinSpanSpec Rows.fnExactJoinSpanRow = true := (joinS_holds_and (joinS_holds_and (joinS_holds_and (joinS_holds_and (joinS_holds_and (joinS_holds_and (joinS_holds_and (joinS_holds_and (joinS_holds_and (joinS_holds_and (joinS_holds_and (joinS_holds_and (joinS_holds_and (joinS_holds_and (joinS_holds_and (joinS_holds_and (joinS_holds_and (joinS_holds_and (joinS_holds_and (joinS_holds_and (joinS_holds_and (joinS_holds_and (joinS_holds_and (joinS_holds_and (joinS_holds_and (joinS_holds_and (joinS_holds_and (joinS_holds_and (joinS_holds_and (joinS_holds_and (joinS_holds_and joinS_holds_c0 joinS_holds_c1) joinS_holds_c2) joinS_holds_c3) joinS_holds_c4) joinS_holds_c5) joinS_holds_c6) joinS_holds_c7) joinS_holds_c8) joinS_holds_c9) joinS_holds_c10) joinS_holds_c11) joinS_holds_c12) joinS_holds_c13) joinS_holds_c14) joinS_holds_c15) joinS_holds_c16) joinS_holds_c17) joinS_holds_c18) joinS_holds_c19) joinS_holds_c20) joinS_holds_c21) joinS_holds_c22) joinS_holds_c23) joinS_holds_c24) joinS_holds_c25) joinS_holds_c26) joinS_holds_c27) joinS_holds_c28) joinS_holds_c29) joinS_holds_c30) joinS_holds_c31)
theorem joinS_holds_named : Try.pinned.checked.prog.funcNamed Rows.fnExactJoinSpanRow.func = some 12 := by kernel_rfl
theorem joinS_holds_inst : Try.f12.isInstance Try.pinned.checked.prog Rows.fnExactJoinSpanRow.origin Rows.fnExactJoinSpanRow.targs := of_decide_eq_true (by kernel_rfl)
theorem joinS_holds_wrap : Try.f12.isWrapper Try.pinned.checked.prog Rows.fnExactJoinSpanRow.wrapper Rows.fnExactJoinSpanRow.mainSum := by unfold Func.isWrapper; first | (rw [if_pos (by decide +kernel)]; kernel_rfl) | (rw [if_neg (by decide +kernel)]; exact ⟨rfl, rfl⟩)
theorem joinS_holds : Rows.FnExactJoinSpanSaid :=
  OpenClaim.holds_of_wide 12 Try.f12 rfl rfl rfl rfl rfl rfl rfl ⟨rfl, rfl, rfl, rfl, rfl⟩ rfl rfl rfl rfl rfl joinS_holds_named Try.func12 joinS_holds_closed joinS_holds_inst joinS_holds_wrap
    (fun os started H enc _ => joinS_holds_lifted os started H enc)
#print axioms joinS_holds
end Go.Proofs.Ytlmeokeanihhoaa

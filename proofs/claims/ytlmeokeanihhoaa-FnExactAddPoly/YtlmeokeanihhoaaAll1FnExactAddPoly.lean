/- The law FnExactAddPoly returns true for every argument and leaves it as it was: the given statement FnExactAddPolySaid. No condition. -/
import Derived.Test.YtlmeokeanihhoaaOpenQ
import Derived.Test.YtlmeokeanihhoaaPkAddPoly
import Derived.Deep.Slices
import Derived.Test.YtlmeokeanihhoaaIo
namespace Go.Proofs.Ytlmeokeanihhoaa
open Go.ChangeShapes Go.WideShapes Go.ChangeAt Go.RowKit Go.Joins
set_option linter.unusedVariables false
set_option maxRecDepth 100000
set_option linter.unusedSimpArgs false

theorem open_ratc {H : Type} {enc : TypeId × Value → H} {W : World} {m : Nat} {c0 c1 c2 c3 : Value} {x : DataW H × List MemPlace}
    (hf : DataW.trod enc Try.prog W 0 (fun _ => true) true m 26 [c0, c1, c2, c3] = some x) :
    ∃ p : QV × QD, (c0 = .bool p.1.num.g ∧ c1 = .slice p.1.num.a p.1.num.n p.1.num.c ∧ c2 = .bool p.1.den.g ∧ c3 = .slice p.1.den.a p.1.den.n p.1.den.c) ∧ AllSl W [(p.1.num, p.2.num), (p.1.den, p.2.den)] ∧ p.1.num.n ≤ maxLen ∧ p.1.den.n ≤ maxLen := by
  obtain ⟨y0, y1, n, hx, _, h0, h1⟩ := trod_struct2 Try.underlying26 hf
  have k0 : DataW.trod enc Try.prog W 0 (fun _ => true) true n 24 [c0, c1] = some y0 := by simpa [Value.cells, Try.cells24] using h0
  have k1 : DataW.trod enc Try.prog W 0 (fun _ => true) true n 24 [c2, c3] = some y1 := by simpa [Value.cells, Try.cells24] using h1
  obtain ⟨z0, z1, n1, _, _, p0, p1⟩ := trod_struct2 Try.underlying24 k0
  obtain ⟨z2, z3, n2, _, _, p2, p3⟩ := trod_struct2 Try.underlying24 k1
  have c_b : Try.prog.cellsOf 4 = 1 := by kernel_rfl
  have c_s : Try.prog.cellsOf 22 = 1 := by kernel_rfl
  obtain ⟨g, a, n', c, xs, rfl, rfl, s1, s2, s3, _⟩ := open_two (c0 := c0) (c1 := c1) (by simpa [c_b] using p0) (by simpa [c_s] using p1)
  obtain ⟨h, b, q, e, us, rfl, rfl, t1, t2, t3, _⟩ := open_two (c0 := c2) (c1 := c3) (by simpa [c_b] using p2) (by simpa [c_s] using p3)
  exact ⟨(⟨⟨g, a, n', c⟩, ⟨h, b, q, e⟩⟩, ⟨⟨g, xs⟩, ⟨h, us⟩⟩), ⟨rfl, rfl, rfl, rfl⟩, AllSl.cons ⟨rfl, s1, s2⟩ (AllSl.cons ⟨rfl, t1, t2⟩ (AllSl.nil _)), s3, t3⟩
theorem addr_add (b off k : Nat) : (⟨b, off, none⟩ : Addr).add k = ⟨b, off + k, none⟩ := by
  unfold Addr.add
  split
  · rename_i h; subst h; rfl
  · rfl
theorem open_PQ {H : Type} {enc : TypeId × Value → H} {W : World} {r : Reach} {b0 : Nat} {v : Value} {d : DataW H} {p : List MemPlace}
    (hv : Value.okWide Try.prog W r b0 51 v) (h : DataW.Trod enc Try.prog W 0 (fun _ => true) true 51 v d p) :
    ∃ (a : Option Addr) (n c : Nat) (l : List (QV × QD)), v = .slice a n c ∧ PSlQ W a l ∧ l.length = n ∧ n ≤ maxLen ∧ ∀ p ∈ l, p.1.num.n ≤ maxLen ∧ p.1.den.n ≤ maxLen := by
  obtain ⟨a, n, c, rfl⟩ := okWide_slice Try.underlying51 hv
  obtain ⟨fuel, hf⟩ := h
  rcases Go.Deep.open_slice Try.underlying51 hf with ⟨hcs, _⟩ | ⟨a', len, cap, m, n', D, Pl, hcs, _, hl, hm, hmm, _, hx⟩
  · simp only [Value.cells, List.cons.injEq, Value.slice.injEq, and_true] at hcs
    obtain ⟨rfl, rfl, rfl⟩ := hcs
    exact ⟨none, 0, 0, [], rfl, ⟨.inl rfl, fun p hp => by cases hp⟩, rfl, Nat.zero_le _, fun p hp => by cases hp⟩
  · simp only [Value.cells, List.cons.injEq, Value.slice.injEq, and_true] at hcs
    obtain ⟨rfl, rfl, rfl⟩ := hcs
    simp only [if_true] at hmm
    subst hmm
    have each : ∀ i, i < n → ∃ p : QV × QD, (W.cell? ((a'.add (i * 4)).add 0) = some (.bool p.1.num.g) ∧ W.cell? ((a'.add (i * 4)).add 1) = some (.slice p.1.num.a p.1.num.n p.1.num.c) ∧ W.cell? ((a'.add (i * 4)).add 2) = some (.bool p.1.den.g) ∧ W.cell? ((a'.add (i * 4)).add 3) = some (.slice p.1.den.a p.1.den.n p.1.den.c)) ∧ AllSl W [(p.1.num, p.2.num), (p.1.den, p.2.den)] ∧ p.1.num.n ≤ maxLen ∧ p.1.den.n ≤ maxLen := by
      intro i hi
      obtain ⟨cs, h1, h2⟩ := hx i (by omega)
      rw [Try.cells26] at h1
      obtain ⟨_, h3, h4⟩ := World.cells?_some h1
      match cs, h3 with
      | [c0, c1, c2, c3], _ =>
        obtain ⟨p, ⟨rfl, rfl, rfl, rfl⟩, hp⟩ := open_ratc h2
        exact ⟨p, ⟨h4 0 (by omega), h4 1 (by omega), h4 2 (by omega), h4 3 (by omega)⟩, hp⟩
    have inh : Inhabited (QV × QD) := ⟨(⟨⟨false, none, 0, 0⟩, ⟨false, none, 0, 0⟩⟩, ⟨⟨false, []⟩, ⟨false, []⟩⟩)⟩
    obtain ⟨f, hf⟩ := Go.Deep.choose_lt each
    refine ⟨some a', n, m, (List.range n).map f, rfl, ⟨?_, ?_⟩, by simp, Nat.le_trans hl hm, ?_⟩
    · by_cases h0 : n = 0
      · subst h0; exact .inl rfl
      · obtain ⟨b, off, spot⟩ := a'
        have hc := (hf 0 (by omega)).1.1
        have hspot : spot = none := by simpa [Addr.add] using World.cell?_spot hc
        subst hspot
        refine .inr ⟨b, off, rfl, ?_, fun i hi => ?_⟩
        · have := World.block_lt_of_cell? _ _ hc
          rw [addr_add, addr_add] at this
          exact this
        · have hi' : i < n := by simpa using hi
          have h1 := (hf i hi').1
          rw [addr_add, addr_add, addr_add, addr_add, addr_add] at h1
          simpa using h1
    · intro p hp
      obtain ⟨i, hi, rfl⟩ := List.mem_map.1 hp
      exact (hf i (List.mem_range.1 hi)).2.1
    · intro p hp
      obtain ⟨i, hi, rfl⟩ := List.mem_map.1 hp
      exact (hf i (List.mem_range.1 hi)).2.2
end Go.Proofs.Ytlmeokeanihhoaa
namespace Go.Proofs.Ytlmeokeanihhoaa
open Go.ChangeShapes Go.WideShapes Go.ChangeAt Go.RowKit Go.Joins
set_option linter.unusedVariables false
set_option maxRecDepth 100000
set_option linter.unusedSimpArgs false

set_option maxRecDepth 100000 in
theorem addP_holds_lifted (os : Os) (started : os.Started) (H : Type) (enc : TypeId × Value → H) :
    ReturnsInHanded {} Try.checked os 15 .any (Rows.fnExactAddPolySpec.pre6 enc Try.prog Try.f15 Rows.fnExactAddPolyRow.domain false) (Rows.fnExactAddPolySpec.post enc Try.prog Try.f15 false true false false) := by
  refine returnsInHanded_of_change (C := Try.checked) own started (by kernel_rfl) Try.func15
    (ChangeSpec.witness6 (enc := enc) (C := Try.checked) false ⟨#[], #[.slice none 0 0, .slice none 0 0], []⟩ 8 (by kernel_rfl) (by kernel_rfl) (by kernel_rfl) (by kernel_rfl)) ?_
  intro W base args ds gs before hval0 hW hcnd _
  have hval : ∀ (j : Nat) t v, Try.f15.params[j]? = some t → args[j]? = some v → Value.okWide Try.prog W .any base t v := hval0
  have hW' := hW
  obtain ⟨p, q, hA0, hV, rfl, hfz, hnd⟩ := hW
  have hA : DataW.TrodAll enc Try.prog W 0 (fun _ => true) true Try.f15.params.toList args.toList ds p := hA0
  rw [Try.params15] at hA hval
  obtain ⟨v0, vs0, d0, ds0, p0, q0, hargs, rfl, rfl, h0, r0⟩ := trodAll_cons hA
  obtain ⟨v1, vs1, d1, ds1, p1, q1, rfl, rfl, rfl, h1, r1⟩ := trodAll_cons r0
  obtain ⟨rfl, rfl, rfl⟩ := trodAll_nil r1
  obtain rfl : args = #[v0, v1] := by cases args; simp_all
  obtain ⟨rfl, rfl⟩ := trodVars_none hV
  have lt0 : ∀ x ∈ p0, x.block < W.heap.size := by obtain ⟨m, hm⟩ := h0; exact DataW.trod_lt m _ _ _ hm
  obtain ⟨a0, n0, c0, l0, rfl, sl0, hn0, hm0, ml0⟩ := open_PQ (hval 0 51 v0 rfl rfl) h0
  have lt1 : ∀ x ∈ p1, x.block < W.heap.size := by obtain ⟨m, hm⟩ := h1; exact DataW.trod_lt m _ _ _ hm
  obtain ⟨a1, n1, c1, l1, rfl, sl1, hn1, hm1, ml1⟩ := open_PQ (hval 1 51 v1 rfl rfl) h1
  clear hA0 hval0
  refine (lawAddP_walk a0 n0 c0 l0 a1 n1 c1 l1 W sl0 hn0 sl1 hn1 hm0 ml0 hm1 ml1).mono fun e W' ⟨he, bel⟩ => ?_
  subst he
  exact ⟨_, rfl, _, _, _, [], _, [], hW', trodAll_mk1 (shut_bool Try.underlying4 _), (trodAll_cons_mk (Below.trod laidOut (by kernel_rfl) (of_decide_eq_true (by kernel_rfl)) h0 bel lt0) (trodAll_cons_mk (Below.trod laidOut (by kernel_rfl) (of_decide_eq_true (by kernel_rfl)) h1 bel lt1) trodAll_mk0)), rfl, bel.frame _, fun h => by cases h⟩

theorem addP_holds_c0 : (Rows.fnExactAddPolyRow.wf (OpenSpec.ofChange Rows.fnExactAddPolySpec)) = true := by kernel_rfl
theorem addP_holds_c1 : (laidOutB Try.pinned.checked.prog) = true := by kernel_rfl
theorem addP_holds_c2 : (mapsRowed Try.pinned.checked.prog) = true := by kernel_rfl
theorem addP_holds_c3 : (Try.f15.params.all (Try.pinned.checked.prog.readableRec ·)) = true := by kernel_rfl
theorem addP_holds_c4 : (namedTie Try.pinned.checked.prog Rows.fnExactAddPolyRow.named Rows.fnExactAddPolySpec.vars) = true := by kernel_rfl
theorem addP_holds_c5 : (Rows.fnExactAddPolyRow.stops == []) = true := by kernel_rfl
theorem addP_holds_c6 : (Try.pinned.checked.prog.stops == []) = true := by kernel_rfl
theorem addP_holds_c7 : (Rows.fnExactAddPolyRow.knobs == []) = true := by kernel_rfl
theorem addP_holds_c8 : (Try.pinned.checked.prog.stopKnobs == []) = true := by kernel_rfl
theorem addP_holds_c9 : (Rows.fnExactAddPolyRow.inPlace == Try.pinned.checked.prog.inPlace 15) = true := by kernel_rfl
theorem addP_holds_c10 : (Rows.fnExactAddPolyRow.unfollowed == Try.pinned.checked.prog.unfollowed 15) = true := by kernel_rfl
theorem addP_holds_c11 : (Rows.fnExactAddPolyRow.recurses == Try.pinned.checked.prog.recurses 15) = true := by kernel_rfl
theorem addP_holds_c12 : (Rows.fnExactAddPolyRow.named == Try.pinned.checked.prog.varsNamed 15) = true := by kernel_rfl
theorem addP_holds_c13 : (Rows.fnExactAddPolyRow.maps == (Try.f15.params.toList ++ Rows.fnExactAddPolySpec.plain.varTypes Try.pinned.checked.prog).any (Try.pinned.checked.prog.mapsRec ·)) = true := by kernel_rfl
theorem addP_holds_c14 : (Rows.fnExactAddPolyRow.ifaces == (Try.f15.params.toList ++ Rows.fnExactAddPolySpec.plain.varTypes Try.pinned.checked.prog).any (Try.pinned.checked.prog.ifacesRec ·)) = true := by kernel_rfl
theorem addP_holds_c15 : (Rows.fnExactAddPolyRow.mapsOut == Try.pinned.checked.prog.mapsAmong Try.f15.resultTypes.toList) = true := by kernel_rfl
theorem addP_holds_c16 : (Rows.fnExactAddPolyRow.loops == (Try.f15.params.toList ++ Rows.fnExactAddPolySpec.plain.varTypes Try.pinned.checked.prog).any (Try.pinned.checked.prog.loopsFrom ·)) = true := by kernel_rfl
theorem addP_holds_c17 : (Rows.fnExactAddPolyRow.wideKeys == (Try.f15.params.toList ++ Rows.fnExactAddPolySpec.plain.varTypes Try.pinned.checked.prog ++ Try.f15.resultTypes.toList).any (Try.pinned.checked.prog.wideKeysFrom ·)) = true := by kernel_rfl
theorem addP_holds_c18 : (Rows.fnExactAddPolySpec.vars.all (Try.pinned.checked.prog.varReadable ·)) = true := by kernel_rfl
theorem addP_holds_c19 : (Try.f15.resultTypes.all (fun t => Try.pinned.checked.prog.readableRec t && decide (t < Try.pinned.checked.prog.types.size))) = true := by kernel_rfl
theorem addP_holds_c20 : (Rows.fnExactAddPolyRow.ifacesOut == Try.f15.resultTypes.toList.any (Try.pinned.checked.prog.ifacesRec ·)) = true := by kernel_rfl
theorem addP_holds_c21 : (Rows.fnExactAddPolyRow.loopsOut == Try.f15.resultTypes.toList.any (Try.pinned.checked.prog.loopsFrom ·)) = true := by kernel_rfl
theorem addP_holds_c22 : (Rows.fnExactAddPolyRow.plainKeys == Try.pinned.checked.prog.plainKeys) = true := by kernel_rfl
theorem addP_holds_c23 : (Rows.fnExactAddPolyRow.shortTexts.isNone) = true := by kernel_rfl
theorem addP_holds_c24 : (Try.pinned.checked.prog.stopsHeard) = true := by kernel_rfl
theorem addP_holds_c25 : (Try.pinned.checked.prog.mayEnter) = true := io_enter
theorem addP_holds_c26 : (Rows.fnExactAddPolyRow.lifted == Try.pinned.checked.prog.liftsFinal) = true := by rw [io_lifts]; kernel_rfl
theorem addP_holds_c27 : (Try.pinned.checked.prog.make == some Rows.fnExactAddPolyRow.make) = true := by rw [io_make]; kernel_rfl
theorem addP_holds_c28 : (Rows.fnExactAddPolyRow.kinds == (if Rows.fnExactAddPolyRow.domain.isEmpty then [] else Try.f15.params.toList.map fun t => match Try.pinned.checked.prog.underlying t with | some (.int k) => some k | _ => none)) = true := by kernel_rfl
theorem addP_holds_c29 : (Rows.fnExactAddPolyRow.pinned == Rows.fnExactAddPolyRow.pinnedBy) = true := by kernel_rfl
theorem addP_holds_c30 : (Rows.fnExactAddPolyRow.veiled == (Try.f15.params.toList ++ Rows.fnExactAddPolySpec.plain.varTypes Try.pinned.checked.prog ++ Try.f15.resultTypes.toList).any (Try.pinned.checked.prog.veiledRec ·)) = true := by kernel_rfl
theorem addP_holds_c31 : (Rows.fnExactAddPolyRow.veiledFits Try.pinned.checked.prog Try.f15.params.toList (Try.f15.params.toList ++ Rows.fnExactAddPolySpec.plain.varTypes Try.pinned.checked.prog ++ Try.f15.resultTypes.toList)) = true := by kernel_rfl
theorem addP_holds_and {a b : Bool} (h : a = true) (k : b = true) : (a && b) = true := by rw [h, k]; rfl
theorem addP_holds_closed : joinedFacts Try.pinned.checked.prog 15 Try.f15 Rows.fnExactAddPolySpec Rows.fnExactAddPolyRow = true := (addP_holds_and (addP_holds_and (addP_holds_and (addP_holds_and (addP_holds_and (addP_holds_and (addP_holds_and (addP_holds_and (addP_holds_and (addP_holds_and (addP_holds_and (addP_holds_and (addP_holds_and (addP_holds_and (addP_holds_and (addP_holds_and (addP_holds_and (addP_holds_and (addP_holds_and (addP_holds_and (addP_holds_and (addP_holds_and (addP_holds_and (addP_holds_and (addP_holds_and (addP_holds_and (addP_holds_and (addP_holds_and (addP_holds_and (addP_holds_and (addP_holds_and addP_holds_c0 addP_holds_c1) addP_holds_c2) addP_holds_c3) addP_holds_c4) addP_holds_c5) addP_holds_c6) addP_holds_c7) addP_holds_c8) addP_holds_c9) addP_holds_c10) addP_holds_c11) addP_holds_c12) addP_holds_c13) addP_holds_c14) addP_holds_c15) addP_holds_c16) addP_holds_c17) addP_holds_c18) addP_holds_c19) addP_holds_c20) addP_holds_c21) addP_holds_c22) addP_holds_c23) addP_holds_c24) addP_holds_c25) addP_holds_c26) addP_holds_c27) addP_holds_c28) addP_holds_c29) addP_holds_c30) addP_holds_c31)
theorem addP_holds_named : Try.pinned.checked.prog.funcNamed Rows.fnExactAddPolyRow.func = some 15 := by kernel_rfl
theorem addP_holds_inst : Try.f15.isInstance Try.pinned.checked.prog Rows.fnExactAddPolyRow.origin Rows.fnExactAddPolyRow.targs := of_decide_eq_true (by kernel_rfl)
theorem addP_holds_wrap : Try.f15.isWrapper Try.pinned.checked.prog Rows.fnExactAddPolyRow.wrapper Rows.fnExactAddPolyRow.mainSum := by unfold Func.isWrapper; first | (rw [if_pos (by decide +kernel)]; kernel_rfl) | (rw [if_neg (by decide +kernel)]; exact ⟨rfl, rfl⟩)
theorem addP_holds : Rows.FnExactAddPolySaid :=
  OpenClaim.holds_of_wide 15 Try.f15 rfl rfl rfl rfl rfl rfl rfl ⟨rfl, rfl, rfl, rfl, rfl⟩ rfl rfl rfl rfl rfl addP_holds_named Try.func15 addP_holds_closed addP_holds_inst addP_holds_wrap
    (fun os started H enc _ => addP_holds_lifted os started H enc)
#print axioms addP_holds
end Go.Proofs.Ytlmeokeanihhoaa

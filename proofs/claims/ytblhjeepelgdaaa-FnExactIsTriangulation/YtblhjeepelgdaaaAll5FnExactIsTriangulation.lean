/- The law FnExactIsTriangulation returns true for every argument and leaves it as it was: the given statement FnExactIsTriangulationSaid. No condition. -/
import Derived.Test.YtblhjeepelgdaaaPkF12
import Derived.Test.YtblhjeepelgdaaaPkZ12
import Derived.Test.YtblhjeepelgdaaaOpenPt
import Derived.Deep.Strs
import Derived.Test.YtblhjeepelgdaaaIo
namespace Go.Proofs.Ytblhjeepelgdaaa
open Go.RowKit
set_option linter.unusedVariables false
set_option maxRecDepth 100000
set_option linter.unusedSimpArgs false

set_option maxHeartbeats 8000000 in
theorem lawIsTriangulation_walk (a : Option Addr) (n c : Nat) (l : List (Int × Int)) (b : Option Addr) (m d : Nat) (r : List (Int × Int × Int)) (w : World) (h : SlP w a l) (hn : l.length = n) (hm : n ≤ maxLen) (h' : SlT w b r) (hn' : r.length = m) (hm' : m ≤ maxLen) :
    Calls Try.prog 6 #[.slice a n c, .slice b m d] w fun e w' => e = .returned (.bool true) ∧ Below w.heap.size w w' := by
  have HS := hide h.below8
  have HN := hide hn
  have HM := hide hm
  have HS' := hide h'.below8
  have HN' := hide hn'
  have HM' := hide hm'
  clear h hn hm h' hn' hm'
  go_enter Try.func6, Try.ntmps6
  go_wp2_with fail
  refine (szPs a n c 1048576 _ (unhide HM) (by omega) (by omega)).mono ?_
  rintro e w1 ⟨hb, ⟨rfl, hl⟩ | ⟨rfl, hl⟩⟩
  · go_wp2_with fail
    go_ret
    exact ⟨rfl, hb⟩
  · have d0 : decide ((1048576 : Int) - (n : Int) < 0) = false := decide_eq_false (by omega)
    have n1 : n ≤ 1048576 := by omega
    replace HS := hide ((unhide HS).later hb)
    replace HS' := hide ((unhide HS').later hb)
    have HB := hide (hb)
    clear hb
    go_wp2_with fail
    refine (szTs b m d (1048576 - (n : Int)) _ (unhide HM') (by omega) (by omega)).mono ?_
    rintro e w2 ⟨hb, ⟨rfl, hl'⟩ | ⟨rfl, hl'⟩⟩
    · go_wp2_with fail
      go_ret
      exact ⟨rfl, below_on (unhide HB) hb⟩
    · have d1 : decide ((1048576 : Int) - (n : Int) - (m : Int) < 0) = false := decide_eq_false (by omega)
      have m1 : m ≤ 1048576 := by omega
      have CS := hide (fun (a' b' : Option Addr) (w' : World) (k : ArP w' a' n n l) (k' : ArT w' b' m m r) => IsTriangulationS a' n n l b' m m r w' k k' n1 m1)
      have CI := hide (fun (a' b' : Option Addr) (w' : World) (k : ArP w' a' n n l) (k' : ArT w' b' m m r) => IsTriangulationI a' n n l b' m m r w' k k' n1 m1)
      generalize itgV l r = v0 at CS CI
      have e0 : (v0 != v0) = false := by simp
      generalize ipB l = v1 at CS CI
      have e1 : (v1 != v1) = false := by simp
      replace HS := hide ((unhide HS).later hb)
      replace HS' := hide ((unhide HS').later hb)
      replace HB := hide (below_on (unhide HB) hb)
      clear hb
      clear hl hl'
      go_wp2_with fail
      refine (toPs a n c l _ (unhide HS).sl (unhide HN) n1).mono ?_
      rintro e w3 ⟨rfl, hb, ow⟩
      replace HS := hide ((unhide HS).later hb)
      replace HS' := hide ((unhide HS').later hb)
      have O1 := hide (ow)
      replace HB := hide (below_on (unhide HB) hb)
      clear hb
      clear ow
      go_wp2_with fail
      refine (toTs b m d r _ (unhide HS').sl (unhide HN') m1).mono ?_
      rintro e w4 ⟨rfl, hb, ow⟩
      replace HS := hide ((unhide HS).later hb)
      replace HS' := hide ((unhide HS').later hb)
      replace O1 := hide ((unhide O1).later hb)
      have P1 := hide (ow)
      replace HB := hide (below_on (unhide HB) hb)
      clear hb
      clear ow
      go_wp2_with fail
      refine (unhide CS _ _ _ (unhide O1).arg (unhide P1).arg).mono ?_
      rintro e w5 ⟨rfl, hb⟩
      replace HS := hide ((unhide HS).later hb)
      replace HS' := hide ((unhide HS').later hb)
      replace O1 := hide ((unhide O1).later hb)
      replace P1 := hide ((unhide P1).later hb)
      replace HB := hide (below_on (unhide HB) hb)
      clear hb
      clear O1 P1
      go_wp2_with fail
      refine (toPs a n c l _ (unhide HS).sl (unhide HN) n1).mono ?_
      rintro e w6 ⟨rfl, hb, ow⟩
      replace HS := hide ((unhide HS).later hb)
      replace HS' := hide ((unhide HS').later hb)
      have O2 := hide (ow)
      replace HB := hide (below_on (unhide HB) hb)
      clear hb
      clear ow
      go_wp2_with fail
      refine (toTs b m d r _ (unhide HS').sl (unhide HN') m1).mono ?_
      rintro e w7 ⟨rfl, hb, ow⟩
      replace HS := hide ((unhide HS).later hb)
      replace HS' := hide ((unhide HS').later hb)
      replace O2 := hide ((unhide O2).later hb)
      have P2 := hide (ow)
      replace HB := hide (below_on (unhide HB) hb)
      clear hb
      clear ow
      go_wp2_with fail
      refine (unhide CI _ _ _ (unhide O2).arg (unhide P2).arg).mono ?_
      rintro e w8 ⟨rfl, hb⟩
      replace HS := hide ((unhide HS).later hb)
      replace HS' := hide ((unhide HS').later hb)
      replace O2 := hide ((unhide O2).later hb)
      replace P2 := hide ((unhide P2).later hb)
      replace HB := hide (below_on (unhide HB) hb)
      clear hb
      go_wp2_with fail
      refine (toPs a n c l _ (unhide HS).sl (unhide HN) n1).mono ?_
      rintro e w9 ⟨rfl, hb, ow⟩
      replace HS := hide ((unhide HS).later hb)
      replace HS' := hide ((unhide HS').later hb)
      replace O2 := hide ((unhide O2).later hb)
      replace P2 := hide ((unhide P2).later hb)
      have O3 := hide (ow)
      replace HB := hide (below_on (unhide HB) hb)
      clear hb
      clear ow
      go_wp2_with fail
      refine (eqPs _ _ n n n l _ (unhide O2).arg.sl (unhide O3).arg.sl (unhide HN) (unhide HM)).mono ?_
      rintro e w10 ⟨rfl, hb⟩
      replace HS := hide ((unhide HS).later hb)
      replace HS' := hide ((unhide HS').later hb)
      replace O2 := hide ((unhide O2).later hb)
      replace P2 := hide ((unhide P2).later hb)
      replace O3 := hide ((unhide O3).later hb)
      replace HB := hide (below_on (unhide HB) hb)
      clear hb
      go_wp2_with fail
      refine (toTs b m d r _ (unhide HS').sl (unhide HN') m1).mono ?_
      rintro e w11 ⟨rfl, hb, ow⟩
      replace HS := hide ((unhide HS).later hb)
      replace HS' := hide ((unhide HS').later hb)
      replace O2 := hide ((unhide O2).later hb)
      replace P2 := hide ((unhide P2).later hb)
      replace O3 := hide ((unhide O3).later hb)
      have P3 := hide (ow)
      replace HB := hide (below_on (unhide HB) hb)
      clear hb
      clear ow
      go_wp2_with fail
      refine (eqTs _ _ m m m r _ (unhide P2).arg.sl (unhide P3).arg.sl (unhide HN') (unhide HM')).mono ?_
      rintro e w12 ⟨rfl, hb⟩
      replace HS := hide ((unhide HS).later hb)
      replace HS' := hide ((unhide HS').later hb)
      replace O2 := hide ((unhide O2).later hb)
      replace P2 := hide ((unhide P2).later hb)
      replace O3 := hide ((unhide O3).later hb)
      replace P3 := hide ((unhide P3).later hb)
      replace HB := hide (below_on (unhide HB) hb)
      clear hb
      go_wp2_with fail
      go_ret
      exact ⟨rfl, unhide HB⟩
end Go.Proofs.Ytblhjeepelgdaaa
namespace Go.Proofs.Ytblhjeepelgdaaa
open Go.ChangeShapes Go.WideShapes Go.ChangeAt Go.RowKit Go.Joins
set_option linter.unusedVariables false
set_option maxRecDepth 100000
set_option linter.unusedSimpArgs false

theorem cellsLTri : Try.prog.cellsOf 53 = 3 := by kernel_rfl
theorem open_R {H : Type} {enc : TypeId × Value → H} {W : World} {r : Reach} {b0 : Nat} {v : Value} {d : DataW H} {p : List MemPlace}
    (hv : Value.okWide Try.prog W r b0 53 v) (h : DataW.Trod enc Try.prog W 0 (fun _ => true) true 53 v d p) :
    ∃ q : Int × Int × Int, v = .agg #[.int .i64 q.1, .int .i64 q.2.1, .int .i64 q.2.2] := by
  obtain ⟨c0, c1, c2, y0, y1, y2, m, rfl, _, _, hy0, hy1, hy2⟩ := open_agg3 Try.underlying53 (by kernel_rfl) cellsLTri hv h
  obtain ⟨x, e0, _, _⟩ := DataW.trod_int Try.underlying3 hy0
  obtain ⟨y, e1, _, _⟩ := DataW.trod_int Try.underlying3 hy1
  obtain ⟨z, e2, _, _⟩ := DataW.trod_int Try.underlying3 hy2
  simp only [List.cons.injEq, and_true] at e0 e1 e2
  subst e0 e1 e2
  exact ⟨(x, y, z), rfl⟩
theorem open_tric {H : Type} {enc : TypeId × Value → H} {W : World} {m : Nat} {c0 c1 c2 : Value} {x : DataW H × List MemPlace}
    (hf : DataW.trod enc Try.prog W 0 (fun _ => true) true m 53 [c0, c1, c2] = some x) : ∃ q : Int × Int × Int, c0 = .int .i64 q.1 ∧ c1 = .int .i64 q.2.1 ∧ c2 = .int .i64 q.2.2 := by
  obtain ⟨y0, y1, y2, n, hx, _, h0, h1, h2⟩ := Go.Deep.trod_struct3 Try.underlying53 hf
  have c_i : Try.prog.cellsOf 3 = 1 := by kernel_rfl
  obtain ⟨x, e0, _, _⟩ := DataW.trod_int Try.underlying3 (show DataW.trod enc Try.prog W 0 (fun _ => true) true n 3 [c0] = some y0 by simpa [c_i] using h0)
  obtain ⟨y, e1, _, _⟩ := DataW.trod_int Try.underlying3 (show DataW.trod enc Try.prog W 0 (fun _ => true) true n 3 [c1] = some y1 by simpa [c_i] using h1)
  obtain ⟨z, e2, _, _⟩ := DataW.trod_int Try.underlying3 (show DataW.trod enc Try.prog W 0 (fun _ => true) true n 3 [c2] = some y2 by simpa [c_i] using h2)
  simp only [List.cons.injEq, and_true] at e0 e1 e2
  exact ⟨(x, y, z), e0, e1, e2⟩
theorem open_RS {H : Type} {enc : TypeId × Value → H} {W : World} {r : Reach} {b0 : Nat} {v : Value} {d : DataW H} {p : List MemPlace}
    (hv : Value.okWide Try.prog W r b0 48 v) (h : DataW.Trod enc Try.prog W 0 (fun _ => true) true 48 v d p) :
    ∃ (a : Option Addr) (n c : Nat) (l : List (Int × Int × Int)), v = .slice a n c ∧ SlT W a l ∧ l.length = n ∧ n ≤ maxLen := by
  obtain ⟨a, n, c, rfl⟩ := okWide_slice Try.underlying48 hv
  obtain ⟨fuel, hf⟩ := h
  rcases Go.Deep.open_slice Try.underlying48 hf with ⟨hcs, _⟩ | ⟨a', len, cap, m, n', D, Pl, hcs, _, hl, hm, hmm, _, hx⟩
  · simp only [Value.cells, List.cons.injEq, Value.slice.injEq, and_true] at hcs
    obtain ⟨rfl, rfl, rfl⟩ := hcs
    exact ⟨none, 0, 0, [], rfl, .inl rfl, rfl, Nat.zero_le _⟩
  · simp only [Value.cells, List.cons.injEq, Value.slice.injEq, and_true] at hcs
    obtain ⟨rfl, rfl, rfl⟩ := hcs
    simp only [if_true] at hmm
    subst hmm
    have each : ∀ i, i < n → ∃ q : Int × Int × Int, W.cell? ((a'.add (i * 3)).add 0) = some (.int .i64 q.1) ∧ W.cell? ((a'.add (i * 3)).add 1) = some (.int .i64 q.2.1) ∧ W.cell? ((a'.add (i * 3)).add 2) = some (.int .i64 q.2.2) := by
      intro i hi
      obtain ⟨cs, h1, h2⟩ := hx i (by omega)
      rw [cellsLTri] at h1
      obtain ⟨_, h3, h4⟩ := World.cells?_some h1
      match cs, h3 with
      | [c0, c1, c2], _ =>
        obtain ⟨q, rfl, rfl, rfl⟩ := open_tric h2
        exact ⟨q, h4 0 (by omega), h4 1 (by omega), h4 2 (by omega)⟩
    obtain ⟨f, hf⟩ := Go.Deep.choose_lt each
    refine ⟨some a', n, m, (List.range n).map f, rfl, ?_, by simp, Nat.le_trans hl hm⟩
    by_cases h0 : n = 0
    · subst h0; exact .inl rfl
    · obtain ⟨b, off, spot⟩ := a'
      have hc := (hf 0 (by omega)).1
      have hspot : spot = none := by simpa [Addr.add] using World.cell?_spot hc
      subst hspot
      refine .inr ⟨b, off, rfl, ?_, fun i hi => ?_⟩
      · have := World.block_lt_of_cell? _ _ hc
        rw [addr_addP, addr_addP] at this
        exact this
      · have hi' : i < n := by simpa using hi
        have h1 := hf i hi'
        rw [addr_addP, addr_addP, addr_addP, addr_addP] at h1
        simpa using h1
end Go.Proofs.Ytblhjeepelgdaaa
namespace Go.Proofs.Ytblhjeepelgdaaa
open Go.ChangeShapes Go.WideShapes Go.ChangeAt Go.RowKit Go.Joins
set_option linter.unusedVariables false
set_option maxRecDepth 100000
set_option linter.unusedSimpArgs false

set_option maxRecDepth 100000 in
theorem ist_holds_lifted (os : Os) (started : os.Started) (H : Type) (enc : TypeId × Value → H) :
    ReturnsInHanded {} Try.checked os 6 .any (Rows.fnExactIsTriangulationSpec.pre6 enc Try.prog Try.f6 Rows.fnExactIsTriangulationRow.domain false) (Rows.fnExactIsTriangulationSpec.post enc Try.prog Try.f6 false true false false) := by
  refine returnsInHanded_of_change (C := Try.checked) own started (by kernel_rfl) Try.func6
    (ChangeSpec.witness6 (enc := enc) (C := Try.checked) false ⟨#[], #[.slice none 0 0, .slice none 0 0], []⟩ 8 (by kernel_rfl) (by kernel_rfl) (by kernel_rfl) (by kernel_rfl)) ?_
  intro W base args ds gs before hval0 hW hcnd _
  have hval : ∀ (j : Nat) t v, Try.f6.params[j]? = some t → args[j]? = some v → Value.okWide Try.prog W .any base t v := hval0
  have hW' := hW
  obtain ⟨p, q, hA0, hV, rfl, hfz, hnd⟩ := hW
  have hA : DataW.TrodAll enc Try.prog W 0 (fun _ => true) true Try.f6.params.toList args.toList ds p := hA0
  rw [Try.params6] at hA hval
  obtain ⟨v0, vs0, d0, ds0, p0, q0, hargs, rfl, rfl, h0, r0⟩ := trodAll_cons hA
  obtain ⟨v1, vs1, d1, ds1, p1, q1, rfl, rfl, rfl, h1, r1⟩ := trodAll_cons r0
  obtain ⟨rfl, rfl, rfl⟩ := trodAll_nil r1
  obtain rfl : args = #[v0, v1] := by cases args; simp_all
  obtain ⟨rfl, rfl⟩ := trodVars_none hV
  have lt0 : ∀ x ∈ p0, x.block < W.heap.size := by obtain ⟨m, hm⟩ := h0; exact DataW.trod_lt m _ _ _ hm
  obtain ⟨a0, n0, c0, l0, rfl, sl0, hn0, hm0⟩ := open_TS (hval 0 39 v0 rfl rfl) h0
  have lt1 : ∀ x ∈ p1, x.block < W.heap.size := by obtain ⟨m, hm⟩ := h1; exact DataW.trod_lt m _ _ _ hm
  obtain ⟨a1, n1, c1, l1, rfl, sl1, hn1, hm1⟩ := open_RS (hval 1 48 v1 rfl rfl) h1
  clear hA0 hval0
  refine (lawIsTriangulation_walk a0 n0 c0 l0 a1 n1 c1 l1 W sl0 hn0 hm0 sl1 hn1 hm1).mono fun e W' ⟨he, bel⟩ => ?_
  subst he
  exact ⟨_, rfl, _, _, _, [], _, [], hW', trodAll_mk1 (shut_bool Try.underlying4 _), (trodAll_cons_mk (Below.trod laidOut (by kernel_rfl) (of_decide_eq_true (by kernel_rfl)) h0 bel lt0) (trodAll_cons_mk (Below.trod laidOut (by kernel_rfl) (of_decide_eq_true (by kernel_rfl)) h1 bel lt1) trodAll_mk0)), rfl, bel.frame _, fun h => by cases h⟩

theorem ist_holds_c0 : (Rows.fnExactIsTriangulationRow.wf (OpenSpec.ofChange Rows.fnExactIsTriangulationSpec)) = true := by kernel_rfl
theorem ist_holds_c1 : (laidOutB Try.pinned.checked.prog) = true := by kernel_rfl
theorem ist_holds_c2 : (mapsRowed Try.pinned.checked.prog) = true := by kernel_rfl
theorem ist_holds_c3 : (Try.f6.params.all (Try.pinned.checked.prog.readableRec ·)) = true := by kernel_rfl
theorem ist_holds_c4 : (namedTie Try.pinned.checked.prog Rows.fnExactIsTriangulationRow.named Rows.fnExactIsTriangulationSpec.vars) = true := by kernel_rfl
theorem ist_holds_c5 : (Rows.fnExactIsTriangulationRow.stops == []) = true := by kernel_rfl
theorem ist_holds_c6 : (Try.pinned.checked.prog.stops == []) = true := by kernel_rfl
theorem ist_holds_c7 : (Rows.fnExactIsTriangulationRow.knobs == []) = true := by kernel_rfl
theorem ist_holds_c8 : (Try.pinned.checked.prog.stopKnobs == []) = true := by kernel_rfl
theorem ist_holds_c9 : (Rows.fnExactIsTriangulationRow.inPlace == Try.pinned.checked.prog.inPlace 6) = true := by kernel_rfl
theorem ist_holds_c10 : (Rows.fnExactIsTriangulationRow.unfollowed == Try.pinned.checked.prog.unfollowed 6) = true := by kernel_rfl
theorem ist_holds_c11 : (Rows.fnExactIsTriangulationRow.recurses == Try.pinned.checked.prog.recurses 6) = true := by kernel_rfl
theorem ist_holds_c12 : (Rows.fnExactIsTriangulationRow.named == Try.pinned.checked.prog.varsNamed 6) = true := by kernel_rfl
theorem ist_holds_c13 : (Rows.fnExactIsTriangulationRow.maps == (Try.f6.params.toList ++ Rows.fnExactIsTriangulationSpec.plain.varTypes Try.pinned.checked.prog).any (Try.pinned.checked.prog.mapsRec ·)) = true := by kernel_rfl
theorem ist_holds_c14 : (Rows.fnExactIsTriangulationRow.ifaces == (Try.f6.params.toList ++ Rows.fnExactIsTriangulationSpec.plain.varTypes Try.pinned.checked.prog).any (Try.pinned.checked.prog.ifacesRec ·)) = true := by kernel_rfl
theorem ist_holds_c15 : (Rows.fnExactIsTriangulationRow.mapsOut == Try.pinned.checked.prog.mapsAmong Try.f6.resultTypes.toList) = true := by kernel_rfl
theorem ist_holds_c16 : (Rows.fnExactIsTriangulationRow.loops == (Try.f6.params.toList ++ Rows.fnExactIsTriangulationSpec.plain.varTypes Try.pinned.checked.prog).any (Try.pinned.checked.prog.loopsFrom ·)) = true := by kernel_rfl
theorem ist_holds_c17 : (Rows.fnExactIsTriangulationRow.wideKeys == (Try.f6.params.toList ++ Rows.fnExactIsTriangulationSpec.plain.varTypes Try.pinned.checked.prog ++ Try.f6.resultTypes.toList).any (Try.pinned.checked.prog.wideKeysFrom ·)) = true := by kernel_rfl
theorem ist_holds_c18 : (Rows.fnExactIsTriangulationSpec.vars.all (Try.pinned.checked.prog.varReadable ·)) = true := by kernel_rfl
theorem ist_holds_c19 : (Try.f6.resultTypes.all (fun t => Try.pinned.checked.prog.readableRec t && decide (t < Try.pinned.checked.prog.types.size))) = true := by kernel_rfl
theorem ist_holds_c20 : (Rows.fnExactIsTriangulationRow.ifacesOut == Try.f6.resultTypes.toList.any (Try.pinned.checked.prog.ifacesRec ·)) = true := by kernel_rfl
theorem ist_holds_c21 : (Rows.fnExactIsTriangulationRow.loopsOut == Try.f6.resultTypes.toList.any (Try.pinned.checked.prog.loopsFrom ·)) = true := by kernel_rfl
theorem ist_holds_c22 : (Rows.fnExactIsTriangulationRow.plainKeys == Try.pinned.checked.prog.plainKeys) = true := by kernel_rfl
theorem ist_holds_c23 : (Rows.fnExactIsTriangulationRow.shortTexts.isNone) = true := by kernel_rfl
theorem ist_holds_c24 : (Try.pinned.checked.prog.stopsHeard) = true := by kernel_rfl
theorem ist_holds_c25 : (Try.pinned.checked.prog.mayEnter) = true := io_enter
theorem ist_holds_c26 : (Rows.fnExactIsTriangulationRow.lifted == Try.pinned.checked.prog.liftsFinal) = true := by rw [io_lifts]; kernel_rfl
theorem ist_holds_c27 : (Try.pinned.checked.prog.make == some Rows.fnExactIsTriangulationRow.make) = true := by rw [io_make]; kernel_rfl
theorem ist_holds_c28 : (Rows.fnExactIsTriangulationRow.kinds == (if Rows.fnExactIsTriangulationRow.domain.isEmpty then [] else Try.f6.params.toList.map fun t => match Try.pinned.checked.prog.underlying t with | some (.int k) => some k | _ => none)) = true := by kernel_rfl
theorem ist_holds_c29 : (Rows.fnExactIsTriangulationRow.pinned == Rows.fnExactIsTriangulationRow.pinnedBy) = true := by kernel_rfl
theorem ist_holds_c30 : (Rows.fnExactIsTriangulationRow.veiled == (Try.f6.params.toList ++ Rows.fnExactIsTriangulationSpec.plain.varTypes Try.pinned.checked.prog ++ Try.f6.resultTypes.toList).any (Try.pinned.checked.prog.veiledRec ·)) = true := by kernel_rfl
theorem ist_holds_c31 : (Rows.fnExactIsTriangulationRow.veiledFits Try.pinned.checked.prog Try.f6.params.toList (Try.f6.params.toList ++ Rows.fnExactIsTriangulationSpec.plain.varTypes Try.pinned.checked.prog ++ Try.f6.resultTypes.toList)) = true := by kernel_rfl
theorem ist_holds_and {a b : Bool} (h : a = true) (k : b = true) : (a && b) = true := by rw [h, k]; rfl
theorem ist_holds_closed : joinedFacts Try.pinned.checked.prog 6 Try.f6 Rows.fnExactIsTriangulationSpec Rows.fnExactIsTriangulationRow = true := (ist_holds_and (ist_holds_and (ist_holds_and (ist_holds_and (ist_holds_and (ist_holds_and (ist_holds_and (ist_holds_and (ist_holds_and (ist_holds_and (ist_holds_and (ist_holds_and (ist_holds_and (ist_holds_and (ist_holds_and (ist_holds_and (ist_holds_and (ist_holds_and (ist_holds_and (ist_holds_and (ist_holds_and (ist_holds_and (ist_holds_and (ist_holds_and (ist_holds_and (ist_holds_and (ist_holds_and (ist_holds_and (ist_holds_and (ist_holds_and (ist_holds_and ist_holds_c0 ist_holds_c1) ist_holds_c2) ist_holds_c3) ist_holds_c4) ist_holds_c5) ist_holds_c6) ist_holds_c7) ist_holds_c8) ist_holds_c9) ist_holds_c10) ist_holds_c11) ist_holds_c12) ist_holds_c13) ist_holds_c14) ist_holds_c15) ist_holds_c16) ist_holds_c17) ist_holds_c18) ist_holds_c19) ist_holds_c20) ist_holds_c21) ist_holds_c22) ist_holds_c23) ist_holds_c24) ist_holds_c25) ist_holds_c26) ist_holds_c27) ist_holds_c28) ist_holds_c29) ist_holds_c30) ist_holds_c31)
theorem ist_holds_named : Try.pinned.checked.prog.funcNamed Rows.fnExactIsTriangulationRow.func = some 6 := by kernel_rfl
theorem ist_holds_inst : Try.f6.isInstance Try.pinned.checked.prog Rows.fnExactIsTriangulationRow.origin Rows.fnExactIsTriangulationRow.targs := of_decide_eq_true (by kernel_rfl)
theorem ist_holds_wrap : Try.f6.isWrapper Try.pinned.checked.prog Rows.fnExactIsTriangulationRow.wrapper Rows.fnExactIsTriangulationRow.mainSum := by unfold Func.isWrapper; first | (rw [if_pos (by decide +kernel)]; kernel_rfl) | (rw [if_neg (by decide +kernel)]; exact ⟨rfl, rfl⟩)
theorem ist_holds : Rows.FnExactIsTriangulationSaid :=
  OpenClaim.holds_of_wide 6 Try.f6 rfl rfl rfl rfl rfl rfl rfl ⟨rfl, rfl, rfl, rfl, rfl⟩ rfl rfl rfl rfl rfl ist_holds_named Try.func6 ist_holds_closed ist_holds_inst ist_holds_wrap
    (fun os started H enc _ => ist_holds_lifted os started H enc)
#print axioms ist_holds
end Go.Proofs.Ytblhjeepelgdaaa

/- The law FnExactTriangulate returns true for every argument and leaves it as it was: the given statement FnExactTriangulateSaid. No condition. -/
import Derived.Test.YtblhjeepelgdaaaPkC12
import Derived.Test.YtblhjeepelgdaaaIo
import Derived.Test.YtblhjeepelgdaaaOpenPt
namespace Go.Proofs.Ytblhjeepelgdaaa
open Go.RowKit Go.ChangeMaps
set_option linter.unusedVariables false
set_option maxRecDepth 100000
set_option linter.unusedSimpArgs false

/-- The triangles of a good simple way. -/
noncomputable def trV (l : List (Int × Int)) : List (Int × Int × Int) := if ipB l then cutL l (sgZ (arS l l.length)) (l.length - 3) (List.range l.length) else []
set_option maxHeartbeats 4000000 in
theorem TriangulateS (a : Option Addr) (n c : Nat) (l : List (Int × Int)) (w : World) (h : ArP w a n c l) (h1 : n ≤ 1048576) :
    Calls Try.prog 31 #[.slice a n c] w fun e w' => ∃ a' n' c', e = .returned (.tuple #[.slice a' n' c', .bool (ipB l)]) ∧ Below w.heap.size w w' ∧ RtT w.heap.size w' a' n' c' (trV l) ∧ n' ≤ 1048576 := by
  have hn := h.len
  have CG := hide (fun w (k : SlP w a l) => gswS a n c l w k hn h1)
  have HS := hide h.sl
  cases hp : ipB l
  · rw [hp] at CG
    have EV : trV l = [] := by unfold trV; rw [hp]; rfl
    rw [EV]
    clear hp h hn EV
    go_enter Try.func31, Try.ntmps31
    go_wp2_with fail
    refine (unhide CG _ (unhide HS)).mono ?_
    rintro e w1 ⟨rfl, hb⟩
    go_wp2_with fail
    go_ret2
    exact ⟨none, 0, 0, rfl, hb, ⟨rfl, .inl rfl⟩, by omega⟩
  · rw [hp] at CG
    have wp := way_parts (ip_parts hp).1
    have CC := hide (fun w (k : SlP w a l) => cutS a n c l w k hn (by omega) (by omega) wp.2)
    have EV : trV l = cutL l (sgZ (arS l l.length)) (n - 3) (List.range n) := by unfold trV; rw [hp, hn]; rfl
    have TL : (cutL l (sgZ (arS l l.length)) (n - 3) (List.range n)).length ≤ n := by rw [cutL_len]; omega
    rw [EV]
    generalize cutL l (sgZ (arS l l.length)) (n - 3) (List.range n) = T at *
    clear hp h hn wp EV
    go_enter Try.func31, Try.ntmps31
    go_wp2_with fail
    refine (unhide CG _ (unhide HS)).mono ?_
    rintro e w1 ⟨rfl, hb⟩
    replace HS := hide ((unhide HS).later hb)
    have HB := hide hb
    clear hb
    go_wp2_with fail
    refine (unhide CC _ (unhide HS)).mono ?_
    rintro e w2 ⟨v, rfl, hb, rt⟩
    obtain ⟨a', c', rfl, r2⟩ := (rt.mono (unhide HB).size).rt
    have R2 := hide r2
    replace HB := hide (below_on (unhide HB) hb)
    clear hb rt r2
    go_wp2_with fail
    go_ret2
    exact ⟨a', _, c', rfl, unhide HB, unhide R2, by omega⟩
set_option maxHeartbeats 4000000 in
theorem TriangulateI (a : Option Addr) (n c : Nat) (l : List (Int × Int)) (w : World) (h : ArP w a n c l) (h1 : n ≤ 1048576) :
    Calls Try.prog 18 #[.slice a n c] w fun e w' => ∃ a' n' c', e = .returned (.tuple #[.slice a' n' c', .bool (ipB l)]) ∧ Below w.heap.size w w' ∧ RtT w.heap.size w' a' n' c' (trV l) ∧ n' ≤ 1048576 := by
  have hn := h.len
  have CG := hide (fun w (k : SlP w a l) => gswI a n c l w k hn h1)
  have HS := hide h.sl
  cases hp : ipB l
  · rw [hp] at CG
    have EV : trV l = [] := by unfold trV; rw [hp]; rfl
    rw [EV]
    clear hp h hn EV
    go_enter Try.func18, Try.ntmps18
    go_wp2_with fail
    refine (unhide CG _ (unhide HS)).mono ?_
    rintro e w1 ⟨rfl, hb⟩
    go_wp2_with fail
    go_ret2
    exact ⟨none, 0, 0, rfl, hb, ⟨rfl, .inl rfl⟩, by omega⟩
  · rw [hp] at CG
    have wp := way_parts (ip_parts hp).1
    have CC := hide (fun w (k : SlP w a l) => cutI a n c l w k hn hp)
    have EV : trV l = cutL l (sgZ (arS l l.length)) (n - 3) (List.range n) := by unfold trV; rw [hp, hn]; rfl
    have TL : (cutL l (sgZ (arS l l.length)) (n - 3) (List.range n)).length ≤ n := by rw [cutL_len]; omega
    rw [EV]
    generalize cutL l (sgZ (arS l l.length)) (n - 3) (List.range n) = T at *
    clear hp h hn wp EV
    go_enter Try.func18, Try.ntmps18
    go_wp2_with fail
    refine (unhide CG _ (unhide HS)).mono ?_
    rintro e w1 ⟨rfl, hb⟩
    replace HS := hide ((unhide HS).later hb)
    have HB := hide hb
    clear hb
    go_wp2_with fail
    refine (unhide CC _ (unhide HS)).mono ?_
    rintro e w2 ⟨v, rfl, hb, rt⟩
    obtain ⟨a', c', rfl, r2⟩ := (rt.mono (unhide HB).size).rt
    have R2 := hide r2
    replace HB := hide (below_on (unhide HB) hb)
    clear hb rt r2
    go_wp2_with fail
    go_ret2
    exact ⟨a', _, c', rfl, unhide HB, unhide R2, by omega⟩
end Go.Proofs.Ytblhjeepelgdaaa
namespace Go.Proofs.Ytblhjeepelgdaaa
open Go.RowKit
set_option linter.unusedVariables false
set_option maxRecDepth 100000
set_option linter.unusedSimpArgs false

set_option maxHeartbeats 8000000 in
theorem lawTriangulate_walk (a : Option Addr) (n c : Nat) (l : List (Int × Int))  (w : World) (h : SlP w a l) (hn : l.length = n) (hm : n ≤ maxLen)  :
    Calls Try.prog 5 #[.slice a n c] w fun e w' => e = .returned (.bool true) ∧ Below w.heap.size w w' := by
  have HS := hide h.below8
  have HN := hide hn
  have HM := hide hm
  clear h hn hm
  go_enter Try.func5, Try.ntmps5
  go_wp2_with fail
  refine (szPs a n c 1048576 _ (unhide HM) (by omega) (by omega)).mono ?_
  rintro e w1 ⟨hb, ⟨rfl, hl⟩ | ⟨rfl, hl⟩⟩
  · go_wp2_with fail
    go_ret
    exact ⟨rfl, hb⟩
  · have d0 : decide ((1048576 : Int) - (n : Int) < 0) = false := decide_eq_false (by omega)
    have n1 : n ≤ 1048576 := by omega
    have CS := hide (fun (a' : Option Addr) (w' : World) (k : ArP w' a' n n l) => TriangulateS a' n n l w' k n1)
    have CI := hide (fun (a' : Option Addr) (w' : World) (k : ArP w' a' n n l) => TriangulateI a' n n l w' k n1)
    generalize trV l = L0 at CS CI
    generalize ipB l = ok at CS CI
    have x0 : (ok != ok) = false := by simp
    have szw1 := hb.size
    replace HS := hide ((unhide HS).later hb)
    have HB := hide (hb)
    clear hb
    clear hl
    go_wp2_with fail
    refine (toPs a n c l _ ((unhide HS)).sl (unhide HN) n1).mono ?_
    rintro e w2a ⟨rfl, hb, ow⟩
    replace HS := hide ((unhide HS).later hb)
    have O1 := hide (ow)
    replace HB := hide (below_on (unhide HB) hb)
    clear hb
    clear ow
    go_wp2_with fail
    refine (unhide CS _ _ (unhide O1).arg).mono ?_
    rintro e w2 ⟨a0, m0, c0, rfl, hb, sw, lm⟩
    have LN := hide sw.len
    replace HS := hide ((unhide HS).later hb)
    replace O1 := hide ((unhide O1).later hb)
    have S0 := hide (sw.sl.below8)
    replace HB := hide (below_on (unhide HB) hb)
    clear hb
    clear sw

    clear O1
    have b2 : w.heap.size ≤ w2.heap.size := (unhide HB).size
    go_wp2_with fail
    refine (toPs a n c l _ ((unhide HS)).sl (unhide HN) n1).mono ?_
    rintro e w4 ⟨rfl, hb, ow⟩
    have szw4 := hb.size
    have lt2 := ow.lt
    replace HS := hide ((unhide HS).later hb)
    replace S0 := hide ((unhide S0).later hb)
    have O2 := hide (ow)
    replace HB := hide (below_on (unhide HB) hb)
    clear hb
    clear ow
    go_wp2_with fail
    refine (unhide CI _ _ (unhide O2).arg).mono ?_
    rintro e w6 ⟨a1, m1, c1, rfl, hb, rt, lm1⟩
    have szw6 := hb.size
    obtain rfl : m1 = m0 := rt.len.symm.trans (unhide LN)
    replace HS := hide ((unhide HS).later hb)
    replace S0 := hide ((unhide S0).later hb)
    replace O2 := hide ((unhide O2).later hb)
    have R1 := hide (rt)
    replace HB := hide (below_on (unhide HB) hb)
    clear hb
    clear rt lm1
    go_wp2_with fail
    refine (eqTs a1 a0 m1 c1 c0 L0 _ (unhide R1).sl (unhide S0).sl (unhide LN) (by unfold maxLen; omega)).mono ?_
    rintro e w7 ⟨rfl, hb⟩
    have szw7 := hb.size
    replace HS := hide ((unhide HS).later hb)
    replace S0 := hide ((unhide S0).later hb)
    replace O2 := hide ((unhide O2).later hb)
    replace R1 := hide ((unhide R1).later hb)
    replace HB := hide (below_on (unhide HB) hb)
    clear hb
    go_wp2_with fail
    refine (toPs a n c l _ ((unhide HS)).sl (unhide HN) n1).mono ?_
    rintro e w8 ⟨rfl, hb, ow⟩
    have szw8 := hb.size
    replace HS := hide ((unhide HS).later hb)
    replace S0 := hide ((unhide S0).later hb)
    replace O2 := hide ((unhide O2).later hb)
    replace R1 := hide ((unhide R1).later hb)
    have O3 := hide (ow)
    replace HB := hide (below_on (unhide HB) hb)
    clear hb
    clear ow
    go_wp2_with fail
    refine (eqPs _ _ n n n l _ (unhide O2).arg.sl (unhide O3).arg.sl (unhide HN) (unhide HM)).mono ?_
    rintro e w9 ⟨rfl, hb⟩
    have szw9 := hb.size
    replace HS := hide ((unhide HS).later hb)
    replace S0 := hide ((unhide S0).later hb)
    replace O2 := hide ((unhide O2).later hb)
    replace R1 := hide ((unhide R1).later hb)
    replace O3 := hide ((unhide O3).later hb)
    replace HB := hide (below_on (unhide HB) hb)
    clear hb
    clear O3
    go_wp2_with fail
    refine (markPs w2.heap.size n n 1 l _ (unhide O2) n1 (by omega) (by omega)).mono ?_
    rintro e w10 ⟨rfl, hb, ow⟩
    replace HS := hide ((unhide HS).keep hb (by omega))
    replace S0 := hide ((unhide S0).keep hb (by omega))
    replace R1 := hide ((unhide R1).keep hb (by omega))
    replace HB := hide (hb.below (unhide HB) (by omega) (by omega))
    have szw10 := hb.size
    clear hb ow O2
    have d1 : decide ((1 : Int) + 2 * (n : Int) < 0) = false := decide_eq_false (by omega)
    go_wp2_with fail
    refine (eqTs a1 a0 m1 c1 c0 L0 _ (unhide R1).sl (unhide S0).sl (unhide LN) (by unfold maxLen; omega)).mono ?_
    rintro e w11 ⟨rfl, hb⟩
    have szw11 := hb.size
    replace HS := hide ((unhide HS).later hb)
    replace S0 := hide ((unhide S0).later hb)
    replace R1 := hide ((unhide R1).later hb)
    replace HB := hide (below_on (unhide HB) hb)
    clear hb
    clear d1
    go_wp2_with fail
    refine (markRtT w4.heap.size a1 m1 c1 1 L0 _ (unhide R1) (by omega) (by omega) (by omega) (by omega)).mono ?_
    rintro e w12 ⟨rfl, hb, rt⟩
    replace HS := hide ((unhide HS).keep (below_but8 hb (Nat.le_refl _)) (by omega))
    replace S0 := hide ((unhide S0).keep (below_but8 hb (Nat.le_refl _)) (by omega))
    replace R1 := hide rt
    replace HB := hide ((unhide HB).trans (hb.mono (by omega)))
    have szw12 := hb.size
    clear hb rt
    have d2 : decide ((1 : Int) + 3 * (m1 : Int) < 0) = false := decide_eq_false (by omega)
    have d3 : ((1 : Int) + 3 * (m1 : Int) != 1 + 3 * (m1 : Int)) = false := by simp
    go_wp2_with fail
    refine (heldTs a1 m1 c1 1 _ (unhide R1).sl (by omega) (by omega) (by omega)).mono ?_
    rintro e w13 ⟨rfl, hb⟩
    replace HS := hide ((unhide HS).later hb)
    replace S0 := hide ((unhide S0).later hb)
    replace R1 := hide ((unhide R1).later hb)
    replace HB := hide (below_on (unhide HB) hb)
    clear hb
    go_wp2_with fail
    refine (toPs a n c l _ ((unhide HS)).sl (unhide HN) n1).mono ?_
    rintro e w14a ⟨rfl, hb, ow⟩
    replace HS := hide ((unhide HS).later hb)
    replace S0 := hide ((unhide S0).later hb)
    replace R1 := hide ((unhide R1).later hb)
    have O4 := hide (ow)
    replace HB := hide (below_on (unhide HB) hb)
    clear hb
    clear ow
    go_wp2_with fail
    refine (unhide CI _ _ (unhide O4).arg).mono ?_
    rintro e w14 ⟨a2, m2, c2, rfl, hb, rt, lm2⟩
    obtain rfl : m2 = m1 := rt.len.symm.trans (unhide LN)
    replace HS := hide ((unhide HS).later hb)
    replace S0 := hide ((unhide S0).later hb)
    replace R1 := hide ((unhide R1).later hb)
    replace O4 := hide ((unhide O4).later hb)
    have R2 := hide (rt)
    replace HB := hide (below_on (unhide HB) hb)
    clear hb
    clear rt lm2
    clear O4
    go_wp2_with fail
    refine (eqTs a2 a0 m2 c2 c0 L0 _ (unhide R2).sl (unhide S0).sl (unhide LN) (by unfold maxLen; omega)).mono ?_
    rintro e w15 ⟨rfl, hb⟩
    replace HS := hide ((unhide HS).later hb)
    replace S0 := hide ((unhide S0).later hb)
    replace R1 := hide ((unhide R1).later hb)
    replace R2 := hide ((unhide R2).later hb)
    replace HB := hide (below_on (unhide HB) hb)
    clear hb
    go_wp2_with fail
    refine (heldTs a1 m2 c1 1 _ (unhide R1).sl (by omega) (by omega) (by omega)).mono ?_
    rintro e w16 ⟨rfl, hb⟩
    replace HS := hide ((unhide HS).later hb)
    replace S0 := hide ((unhide S0).later hb)
    replace R1 := hide ((unhide R1).later hb)
    replace R2 := hide ((unhide R2).later hb)
    replace HB := hide (below_on (unhide HB) hb)
    clear hb
    go_wp2_with fail
    go_ret
    exact ⟨rfl, unhide HB⟩
end Go.Proofs.Ytblhjeepelgdaaa
namespace Go.Proofs.Ytblhjeepelgdaaa
open Go.ChangeShapes Go.WideShapes Go.ChangeAt Go.RowKit Go.Joins
set_option linter.unusedVariables false
set_option maxRecDepth 100000
set_option linter.unusedSimpArgs false

set_option maxRecDepth 100000 in
theorem tri_holds_lifted (os : Os) (started : os.Started) (H : Type) (enc : TypeId × Value → H) :
    ReturnsInHanded {} Try.checked os 5 .any (Rows.fnExactTriangulateSpec.pre6 enc Try.prog Try.f5 Rows.fnExactTriangulateRow.domain false) (Rows.fnExactTriangulateSpec.post enc Try.prog Try.f5 false true false false) := by
  refine returnsInHanded_of_change (C := Try.checked) own started (by kernel_rfl) Try.func5
    (ChangeSpec.witness6 (enc := enc) (C := Try.checked) false ⟨#[], #[.slice none 0 0], []⟩ 8 (by kernel_rfl) (by kernel_rfl) (by kernel_rfl) (by kernel_rfl)) ?_
  intro W base args ds gs before hval0 hW hcnd _
  have hval : ∀ (j : Nat) t v, Try.f5.params[j]? = some t → args[j]? = some v → Value.okWide Try.prog W .any base t v := hval0
  have hW' := hW
  obtain ⟨p, q, hA0, hV, rfl, hfz, hnd⟩ := hW
  have hA : DataW.TrodAll enc Try.prog W 0 (fun _ => true) true Try.f5.params.toList args.toList ds p := hA0
  rw [Try.params5] at hA hval
  obtain ⟨v0, vs0, d0, ds0, p0, q0, hargs, rfl, rfl, h0, r0⟩ := trodAll_cons hA
  obtain ⟨rfl, rfl, rfl⟩ := trodAll_nil r0
  obtain rfl : args = #[v0] := by cases args; simp_all
  obtain ⟨rfl, rfl⟩ := trodVars_none hV
  have lt0 : ∀ x ∈ p0, x.block < W.heap.size := by obtain ⟨m, hm⟩ := h0; exact DataW.trod_lt m _ _ _ hm
  obtain ⟨a0, n0, c0, l0, rfl, sl0, hn0, hm0⟩ := open_TS (hval 0 39 v0 rfl rfl) h0
  clear hA0 hval0
  refine (lawTriangulate_walk a0 n0 c0 l0 W sl0 hn0 hm0).mono fun e W' ⟨he, bel⟩ => ?_
  subst he
  exact ⟨_, rfl, _, _, _, [], _, [], hW', trodAll_mk1 (shut_bool Try.underlying4 _), (trodAll_cons_mk (Below.trod laidOut (by kernel_rfl) (of_decide_eq_true (by kernel_rfl)) h0 bel lt0) trodAll_mk0), rfl, bel.frame _, fun h => by cases h⟩

theorem tri_holds_c0 : (Rows.fnExactTriangulateRow.wf (OpenSpec.ofChange Rows.fnExactTriangulateSpec)) = true := by kernel_rfl
theorem tri_holds_c1 : (laidOutB Try.pinned.checked.prog) = true := by kernel_rfl
theorem tri_holds_c2 : (mapsRowed Try.pinned.checked.prog) = true := by kernel_rfl
theorem tri_holds_c3 : (Try.f5.params.all (Try.pinned.checked.prog.readableRec ·)) = true := by kernel_rfl
theorem tri_holds_c4 : (namedTie Try.pinned.checked.prog Rows.fnExactTriangulateRow.named Rows.fnExactTriangulateSpec.vars) = true := by kernel_rfl
theorem tri_holds_c5 : (Rows.fnExactTriangulateRow.stops == []) = true := by kernel_rfl
theorem tri_holds_c6 : (Try.pinned.checked.prog.stops == []) = true := by kernel_rfl
theorem tri_holds_c7 : (Rows.fnExactTriangulateRow.knobs == []) = true := by kernel_rfl
theorem tri_holds_c8 : (Try.pinned.checked.prog.stopKnobs == []) = true := by kernel_rfl
theorem tri_holds_c9 : (Rows.fnExactTriangulateRow.inPlace == Try.pinned.checked.prog.inPlace 5) = true := by kernel_rfl
theorem tri_holds_c10 : (Rows.fnExactTriangulateRow.unfollowed == Try.pinned.checked.prog.unfollowed 5) = true := by kernel_rfl
theorem tri_holds_c11 : (Rows.fnExactTriangulateRow.recurses == Try.pinned.checked.prog.recurses 5) = true := by kernel_rfl
theorem tri_holds_c12 : (Rows.fnExactTriangulateRow.named == Try.pinned.checked.prog.varsNamed 5) = true := by kernel_rfl
theorem tri_holds_c13 : (Rows.fnExactTriangulateRow.maps == (Try.f5.params.toList ++ Rows.fnExactTriangulateSpec.plain.varTypes Try.pinned.checked.prog).any (Try.pinned.checked.prog.mapsRec ·)) = true := by kernel_rfl
theorem tri_holds_c14 : (Rows.fnExactTriangulateRow.ifaces == (Try.f5.params.toList ++ Rows.fnExactTriangulateSpec.plain.varTypes Try.pinned.checked.prog).any (Try.pinned.checked.prog.ifacesRec ·)) = true := by kernel_rfl
theorem tri_holds_c15 : (Rows.fnExactTriangulateRow.mapsOut == Try.pinned.checked.prog.mapsAmong Try.f5.resultTypes.toList) = true := by kernel_rfl
theorem tri_holds_c16 : (Rows.fnExactTriangulateRow.loops == (Try.f5.params.toList ++ Rows.fnExactTriangulateSpec.plain.varTypes Try.pinned.checked.prog).any (Try.pinned.checked.prog.loopsFrom ·)) = true := by kernel_rfl
theorem tri_holds_c17 : (Rows.fnExactTriangulateRow.wideKeys == (Try.f5.params.toList ++ Rows.fnExactTriangulateSpec.plain.varTypes Try.pinned.checked.prog ++ Try.f5.resultTypes.toList).any (Try.pinned.checked.prog.wideKeysFrom ·)) = true := by kernel_rfl
theorem tri_holds_c18 : (Rows.fnExactTriangulateSpec.vars.all (Try.pinned.checked.prog.varReadable ·)) = true := by kernel_rfl
theorem tri_holds_c19 : (Try.f5.resultTypes.all (fun t => Try.pinned.checked.prog.readableRec t && decide (t < Try.pinned.checked.prog.types.size))) = true := by kernel_rfl
theorem tri_holds_c20 : (Rows.fnExactTriangulateRow.ifacesOut == Try.f5.resultTypes.toList.any (Try.pinned.checked.prog.ifacesRec ·)) = true := by kernel_rfl
theorem tri_holds_c21 : (Rows.fnExactTriangulateRow.loopsOut == Try.f5.resultTypes.toList.any (Try.pinned.checked.prog.loopsFrom ·)) = true := by kernel_rfl
theorem tri_holds_c22 : (Rows.fnExactTriangulateRow.plainKeys == Try.pinned.checked.prog.plainKeys) = true := by kernel_rfl
theorem tri_holds_c23 : (Rows.fnExactTriangulateRow.shortTexts.isNone) = true := by kernel_rfl
theorem tri_holds_c24 : (Try.pinned.checked.prog.stopsHeard) = true := by kernel_rfl
theorem tri_holds_c25 : (Try.pinned.checked.prog.mayEnter) = true := io_enter
theorem tri_holds_c26 : (Rows.fnExactTriangulateRow.lifted == Try.pinned.checked.prog.liftsFinal) = true := by rw [io_lifts]; kernel_rfl
theorem tri_holds_c27 : (Try.pinned.checked.prog.make == some Rows.fnExactTriangulateRow.make) = true := by rw [io_make]; kernel_rfl
theorem tri_holds_c28 : (Rows.fnExactTriangulateRow.kinds == (if Rows.fnExactTriangulateRow.domain.isEmpty then [] else Try.f5.params.toList.map fun t => match Try.pinned.checked.prog.underlying t with | some (.int k) => some k | _ => none)) = true := by kernel_rfl
theorem tri_holds_c29 : (Rows.fnExactTriangulateRow.pinned == Rows.fnExactTriangulateRow.pinnedBy) = true := by kernel_rfl
theorem tri_holds_c30 : (Rows.fnExactTriangulateRow.veiled == (Try.f5.params.toList ++ Rows.fnExactTriangulateSpec.plain.varTypes Try.pinned.checked.prog ++ Try.f5.resultTypes.toList).any (Try.pinned.checked.prog.veiledRec ·)) = true := by kernel_rfl
theorem tri_holds_c31 : (Rows.fnExactTriangulateRow.veiledFits Try.pinned.checked.prog Try.f5.params.toList (Try.f5.params.toList ++ Rows.fnExactTriangulateSpec.plain.varTypes Try.pinned.checked.prog ++ Try.f5.resultTypes.toList)) = true := by kernel_rfl
theorem tri_holds_and {a b : Bool} (h : a = true) (k : b = true) : (a && b) = true := by rw [h, k]; rfl
theorem tri_holds_closed : joinedFacts Try.pinned.checked.prog 5 Try.f5 Rows.fnExactTriangulateSpec Rows.fnExactTriangulateRow = true := (tri_holds_and (tri_holds_and (tri_holds_and (tri_holds_and (tri_holds_and (tri_holds_and (tri_holds_and (tri_holds_and (tri_holds_and (tri_holds_and (tri_holds_and (tri_holds_and (tri_holds_and (tri_holds_and (tri_holds_and (tri_holds_and (tri_holds_and (tri_holds_and (tri_holds_and (tri_holds_and (tri_holds_and (tri_holds_and (tri_holds_and (tri_holds_and (tri_holds_and (tri_holds_and (tri_holds_and (tri_holds_and (tri_holds_and (tri_holds_and (tri_holds_and tri_holds_c0 tri_holds_c1) tri_holds_c2) tri_holds_c3) tri_holds_c4) tri_holds_c5) tri_holds_c6) tri_holds_c7) tri_holds_c8) tri_holds_c9) tri_holds_c10) tri_holds_c11) tri_holds_c12) tri_holds_c13) tri_holds_c14) tri_holds_c15) tri_holds_c16) tri_holds_c17) tri_holds_c18) tri_holds_c19) tri_holds_c20) tri_holds_c21) tri_holds_c22) tri_holds_c23) tri_holds_c24) tri_holds_c25) tri_holds_c26) tri_holds_c27) tri_holds_c28) tri_holds_c29) tri_holds_c30) tri_holds_c31)
theorem tri_holds_named : Try.pinned.checked.prog.funcNamed Rows.fnExactTriangulateRow.func = some 5 := by kernel_rfl
theorem tri_holds_inst : Try.f5.isInstance Try.pinned.checked.prog Rows.fnExactTriangulateRow.origin Rows.fnExactTriangulateRow.targs := of_decide_eq_true (by kernel_rfl)
theorem tri_holds_wrap : Try.f5.isWrapper Try.pinned.checked.prog Rows.fnExactTriangulateRow.wrapper Rows.fnExactTriangulateRow.mainSum := by unfold Func.isWrapper; first | (rw [if_pos (by decide +kernel)]; kernel_rfl) | (rw [if_neg (by decide +kernel)]; exact ⟨rfl, rfl⟩)
theorem tri_holds : Rows.FnExactTriangulateSaid :=
  OpenClaim.holds_of_wide 5 Try.f5 rfl rfl rfl rfl rfl rfl rfl ⟨rfl, rfl, rfl, rfl, rfl⟩ rfl rfl rfl rfl rfl tri_holds_named Try.func5 tri_holds_closed tri_holds_inst tri_holds_wrap
    (fun os started H enc _ => tri_holds_lifted os started H enc)
#print axioms tri_holds
end Go.Proofs.Ytblhjeepelgdaaa

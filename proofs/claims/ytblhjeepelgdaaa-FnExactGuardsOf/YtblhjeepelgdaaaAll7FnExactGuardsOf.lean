/- The law FnExactGuardsOf returns true for every argument and leaves it as it was: the given statement FnExactGuardsOfSaid. No condition. -/
import Derived.Test.YtblhjeepelgdaaaPkE12
import Derived.Test.YtblhjeepelgdaaaIo
import Derived.Test.YtblhjeepelgdaaaOpenPt
namespace Go.Proofs.Ytblhjeepelgdaaa
open Go.RowKit
set_option linter.unusedVariables false
set_option maxRecDepth 100000
set_option linter.unusedSimpArgs false

set_option maxHeartbeats 8000000 in
theorem lawGuardsOf_walk (a : Option Addr) (n c : Nat) (l : List (Int × Int))  (w : World) (h : SlP w a l) (hn : l.length = n) (hm : n ≤ maxLen)  :
    Calls Try.prog 8 #[.slice a n c] w fun e w' => e = .returned (.bool true) ∧ Below w.heap.size w w' := by
  have HS := hide h.below8
  have HN := hide hn
  have HM := hide hm
  clear h hn hm
  go_enter Try.func8, Try.ntmps8
  go_wp2_with fail
  refine (szPs a n c 1048576 _ (unhide HM) (by omega) (by omega)).mono ?_
  rintro e w1 ⟨hb, ⟨rfl, hl⟩ | ⟨rfl, hl⟩⟩
  · go_wp2_with fail
    go_ret
    exact ⟨rfl, hb⟩
  · have d0 : decide ((1048576 : Int) - (n : Int) < 0) = false := decide_eq_false (by omega)
    have n1 : n ≤ 1048576 := by omega
    have CS := hide (fun (a' : Option Addr) (w' : World) (k : ArP w' a' n n l) => GuardsOfS a' n n l w' k n1)
    have CI := hide (fun (a' : Option Addr) (w' : World) (k : ArP w' a' n n l) => GuardsOfI a' n n l w' k n1)
    generalize guV l = L0 at CS CI
    generalize ipB l = ok at CS CI
    have x0 : (ok != ok) = false := by simp
    have szw1 := hb.size
    replace HS := hide ((unhide HS).later hb)
    have HB := hide (hb)
    clear hb
    clear hl
    go_wp2_with fail
    refine (toPs a n c l _ ((unhide HS)).sl (unhide HN) n1).mono ?_
    rintro e w2a ⟨rfl, hb, ow⟩
    replace HS := hide ((unhide HS).later hb)
    have O1 := hide (ow)
    replace HB := hide (below_on (unhide HB) hb)
    clear hb
    clear ow
    go_wp2_with fail
    refine (unhide CS _ _ (unhide O1).arg).mono ?_
    rintro e w2 ⟨a0, m0, c0, rfl, hb, sw, lm⟩
    have LN := hide sw.len
    replace HS := hide ((unhide HS).later hb)
    replace O1 := hide ((unhide O1).later hb)
    have S0 := hide (sw.sl.below8)
    replace HB := hide (below_on (unhide HB) hb)
    clear hb
    clear sw

    clear O1
    have b2 : w.heap.size ≤ w2.heap.size := (unhide HB).size
    go_wp2_with fail
    refine (toPs a n c l _ ((unhide HS)).sl (unhide HN) n1).mono ?_
    rintro e w4 ⟨rfl, hb, ow⟩
    have szw4 := hb.size
    have lt2 := ow.lt
    replace HS := hide ((unhide HS).later hb)
    replace S0 := hide ((unhide S0).later hb)
    have O2 := hide (ow)
    replace HB := hide (below_on (unhide HB) hb)
    clear hb
    clear ow
    go_wp2_with fail
    refine (unhide CI _ _ (unhide O2).arg).mono ?_
    rintro e w6 ⟨a1, m1, c1, rfl, hb, rt, lm1⟩
    have szw6 := hb.size
    obtain rfl : m1 = m0 := rt.len.symm.trans (unhide LN)
    replace HS := hide ((unhide HS).later hb)
    replace S0 := hide ((unhide S0).later hb)
    replace O2 := hide ((unhide O2).later hb)
    have R1 := hide (rt)
    replace HB := hide (below_on (unhide HB) hb)
    clear hb
    clear rt lm1
    go_wp2_with fail
    refine (eqI_same a1 a0 m1 c1 c0 L0 _ (unhide R1).sl (unhide S0).sl (unhide LN) (by unfold maxLen; omega)).mono ?_
    rintro e w7 ⟨rfl, hb⟩
    have szw7 := hb.size
    replace HS := hide ((unhide HS).later hb)
    replace S0 := hide ((unhide S0).later hb)
    replace O2 := hide ((unhide O2).later hb)
    replace R1 := hide ((unhide R1).later hb)
    replace HB := hide (below_on (unhide HB) hb)
    clear hb
    go_wp2_with fail
    refine (toPs a n c l _ ((unhide HS)).sl (unhide HN) n1).mono ?_
    rintro e w8 ⟨rfl, hb, ow⟩
    have szw8 := hb.size
    replace HS := hide ((unhide HS).later hb)
    replace S0 := hide ((unhide S0).later hb)
    replace O2 := hide ((unhide O2).later hb)
    replace R1 := hide ((unhide R1).later hb)
    have O3 := hide (ow)
    replace HB := hide (below_on (unhide HB) hb)
    clear hb
    clear ow
    go_wp2_with fail
    refine (eqPs _ _ n n n l _ (unhide O2).arg.sl (unhide O3).arg.sl (unhide HN) (unhide HM)).mono ?_
    rintro e w9 ⟨rfl, hb⟩
    have szw9 := hb.size
    replace HS := hide ((unhide HS).later hb)
    replace S0 := hide ((unhide S0).later hb)
    replace O2 := hide ((unhide O2).later hb)
    replace R1 := hide ((unhide R1).later hb)
    replace O3 := hide ((unhide O3).later hb)
    replace HB := hide (below_on (unhide HB) hb)
    clear hb
    clear O3
    go_wp2_with fail
    refine (markPs w2.heap.size n n 1 l _ (unhide O2) n1 (by omega) (by omega)).mono ?_
    rintro e w10 ⟨rfl, hb, ow⟩
    replace HS := hide ((unhide HS).keep hb (by omega))
    replace S0 := hide ((unhide S0).keep hb (by omega))
    replace R1 := hide ((unhide R1).keep hb (by omega))
    replace HB := hide (hb.below (unhide HB) (by omega) (by omega))
    have szw10 := hb.size
    clear hb ow O2
    have d1 : decide ((1 : Int) + 2 * (n : Int) < 0) = false := decide_eq_false (by omega)
    go_wp2_with fail
    refine (eqI_same a1 a0 m1 c1 c0 L0 _ (unhide R1).sl (unhide S0).sl (unhide LN) (by unfold maxLen; omega)).mono ?_
    rintro e w11 ⟨rfl, hb⟩
    have szw11 := hb.size
    replace HS := hide ((unhide HS).later hb)
    replace S0 := hide ((unhide S0).later hb)
    replace R1 := hide ((unhide R1).later hb)
    replace HB := hide (below_on (unhide HB) hb)
    clear hb
    clear d1
    go_wp2_with fail
    refine (markRtI w4.heap.size a1 m1 c1 1 L0 _ (unhide R1) (by omega) (by omega) (by omega) (by omega)).mono ?_
    rintro e w12 ⟨rfl, hb, rt⟩
    replace HS := hide ((unhide HS).keep (below_but8 hb (Nat.le_refl _)) (by omega))
    replace S0 := hide ((unhide S0).keep (below_but8 hb (Nat.le_refl _)) (by omega))
    replace R1 := hide rt
    replace HB := hide ((unhide HB).trans (hb.mono (by omega)))
    have szw12 := hb.size
    clear hb rt
    have d2 : decide ((1 : Int) + (m1 : Int) < 0) = false := decide_eq_false (by omega)
    have d3 : ((1 : Int) + (m1 : Int) != 1 + (m1 : Int)) = false := by simp
    go_wp2_with fail
    refine (heldRtI a1 m1 c1 1 _ (unhide R1).sl (by omega) (by omega) (by omega)).mono ?_
    rintro e w13 ⟨rfl, hb⟩
    replace HS := hide ((unhide HS).later hb)
    replace S0 := hide ((unhide S0).later hb)
    replace R1 := hide ((unhide R1).later hb)
    replace HB := hide (below_on (unhide HB) hb)
    clear hb
    go_wp2_with fail
    refine (toPs a n c l _ ((unhide HS)).sl (unhide HN) n1).mono ?_
    rintro e w14a ⟨rfl, hb, ow⟩
    replace HS := hide ((unhide HS).later hb)
    replace S0 := hide ((unhide S0).later hb)
    replace R1 := hide ((unhide R1).later hb)
    have O4 := hide (ow)
    replace HB := hide (below_on (unhide HB) hb)
    clear hb
    clear ow
    go_wp2_with fail
    refine (unhide CI _ _ (unhide O4).arg).mono ?_
    rintro e w14 ⟨a2, m2, c2, rfl, hb, rt, lm2⟩
    obtain rfl : m2 = m1 := rt.len.symm.trans (unhide LN)
    replace HS := hide ((unhide HS).later hb)
    replace S0 := hide ((unhide S0).later hb)
    replace R1 := hide ((unhide R1).later hb)
    replace O4 := hide ((unhide O4).later hb)
    have R2 := hide (rt)
    replace HB := hide (below_on (unhide HB) hb)
    clear hb
    clear rt lm2
    clear O4
    go_wp2_with fail
    refine (eqI_same a2 a0 m2 c2 c0 L0 _ (unhide R2).sl (unhide S0).sl (unhide LN) (by unfold maxLen; omega)).mono ?_
    rintro e w15 ⟨rfl, hb⟩
    replace HS := hide ((unhide HS).later hb)
    replace S0 := hide ((unhide S0).later hb)
    replace R1 := hide ((unhide R1).later hb)
    replace R2 := hide ((unhide R2).later hb)
    replace HB := hide (below_on (unhide HB) hb)
    clear hb
    go_wp2_with fail
    refine (heldRtI a1 m2 c1 1 _ (unhide R1).sl (by omega) (by omega) (by omega)).mono ?_
    rintro e w16 ⟨rfl, hb⟩
    replace HS := hide ((unhide HS).later hb)
    replace S0 := hide ((unhide S0).later hb)
    replace R1 := hide ((unhide R1).later hb)
    replace R2 := hide ((unhide R2).later hb)
    replace HB := hide (below_on (unhide HB) hb)
    clear hb
    go_wp2_with fail
    go_ret
    exact ⟨rfl, unhide HB⟩
end Go.Proofs.Ytblhjeepelgdaaa
namespace Go.Proofs.Ytblhjeepelgdaaa
open Go.ChangeShapes Go.WideShapes Go.ChangeAt Go.RowKit Go.Joins
set_option linter.unusedVariables false
set_option maxRecDepth 100000
set_option linter.unusedSimpArgs false

set_option maxRecDepth 100000 in
theorem gua_holds_lifted (os : Os) (started : os.Started) (H : Type) (enc : TypeId × Value → H) :
    ReturnsInHanded {} Try.checked os 8 .any (Rows.fnExactGuardsOfSpec.pre6 enc Try.prog Try.f8 Rows.fnExactGuardsOfRow.domain false) (Rows.fnExactGuardsOfSpec.post enc Try.prog Try.f8 false true false false) := by
  refine returnsInHanded_of_change (C := Try.checked) own started (by kernel_rfl) Try.func8
    (ChangeSpec.witness6 (enc := enc) (C := Try.checked) false ⟨#[], #[.slice none 0 0], []⟩ 8 (by kernel_rfl) (by kernel_rfl) (by kernel_rfl) (by kernel_rfl)) ?_
  intro W base args ds gs before hval0 hW hcnd _
  have hval : ∀ (j : Nat) t v, Try.f8.params[j]? = some t → args[j]? = some v → Value.okWide Try.prog W .any base t v := hval0
  have hW' := hW
  obtain ⟨p, q, hA0, hV, rfl, hfz, hnd⟩ := hW
  have hA : DataW.TrodAll enc Try.prog W 0 (fun _ => true) true Try.f8.params.toList args.toList ds p := hA0
  rw [Try.params8] at hA hval
  obtain ⟨v0, vs0, d0, ds0, p0, q0, hargs, rfl, rfl, h0, r0⟩ := trodAll_cons hA
  obtain ⟨rfl, rfl, rfl⟩ := trodAll_nil r0
  obtain rfl : args = #[v0] := by cases args; simp_all
  obtain ⟨rfl, rfl⟩ := trodVars_none hV
  have lt0 : ∀ x ∈ p0, x.block < W.heap.size := by obtain ⟨m, hm⟩ := h0; exact DataW.trod_lt m _ _ _ hm
  obtain ⟨a0, n0, c0, l0, rfl, sl0, hn0, hm0⟩ := open_TS (hval 0 39 v0 rfl rfl) h0
  clear hA0 hval0
  refine (lawGuardsOf_walk a0 n0 c0 l0 W sl0 hn0 hm0).mono fun e W' ⟨he, bel⟩ => ?_
  subst he
  exact ⟨_, rfl, _, _, _, [], _, [], hW', trodAll_mk1 (shut_bool Try.underlying4 _), (trodAll_cons_mk (Below.trod laidOut (by kernel_rfl) (of_decide_eq_true (by kernel_rfl)) h0 bel lt0) trodAll_mk0), rfl, bel.frame _, fun h => by cases h⟩

theorem gua_holds_c0 : (Rows.fnExactGuardsOfRow.wf (OpenSpec.ofChange Rows.fnExactGuardsOfSpec)) = true := by kernel_rfl
theorem gua_holds_c1 : (laidOutB Try.pinned.checked.prog) = true := by kernel_rfl
theorem gua_holds_c2 : (mapsRowed Try.pinned.checked.prog) = true := by kernel_rfl
theorem gua_holds_c3 : (Try.f8.params.all (Try.pinned.checked.prog.readableRec ·)) = true := by kernel_rfl
theorem gua_holds_c4 : (namedTie Try.pinned.checked.prog Rows.fnExactGuardsOfRow.named Rows.fnExactGuardsOfSpec.vars) = true := by kernel_rfl
theorem gua_holds_c5 : (Rows.fnExactGuardsOfRow.stops == []) = true := by kernel_rfl
theorem gua_holds_c6 : (Try.pinned.checked.prog.stops == []) = true := by kernel_rfl
theorem gua_holds_c7 : (Rows.fnExactGuardsOfRow.knobs == []) = true := by kernel_rfl
theorem gua_holds_c8 : (Try.pinned.checked.prog.stopKnobs == []) = true := by kernel_rfl
theorem gua_holds_c9 : (Rows.fnExactGuardsOfRow.inPlace == Try.pinned.checked.prog.inPlace 8) = true := by kernel_rfl
theorem gua_holds_c10 : (Rows.fnExactGuardsOfRow.unfollowed == Try.pinned.checked.prog.unfollowed 8) = true := by kernel_rfl
theorem gua_holds_c11 : (Rows.fnExactGuardsOfRow.recurses == Try.pinned.checked.prog.recurses 8) = true := by kernel_rfl
theorem gua_holds_c12 : (Rows.fnExactGuardsOfRow.named == Try.pinned.checked.prog.varsNamed 8) = true := by kernel_rfl
theorem gua_holds_c13 : (Rows.fnExactGuardsOfRow.maps == (Try.f8.params.toList ++ Rows.fnExactGuardsOfSpec.plain.varTypes Try.pinned.checked.prog).any (Try.pinned.checked.prog.mapsRec ·)) = true := by kernel_rfl
theorem gua_holds_c14 : (Rows.fnExactGuardsOfRow.ifaces == (Try.f8.params.toList ++ Rows.fnExactGuardsOfSpec.plain.varTypes Try.pinned.checked.prog).any (Try.pinned.checked.prog.ifacesRec ·)) = true := by kernel_rfl
theorem gua_holds_c15 : (Rows.fnExactGuardsOfRow.mapsOut == Try.pinned.checked.prog.mapsAmong Try.f8.resultTypes.toList) = true := by kernel_rfl
theorem gua_holds_c16 : (Rows.fnExactGuardsOfRow.loops == (Try.f8.params.toList ++ Rows.fnExactGuardsOfSpec.plain.varTypes Try.pinned.checked.prog).any (Try.pinned.checked.prog.loopsFrom ·)) = true := by kernel_rfl
theorem gua_holds_c17 : (Rows.fnExactGuardsOfRow.wideKeys == (Try.f8.params.toList ++ Rows.fnExactGuardsOfSpec.plain.varTypes Try.pinned.checked.prog ++ Try.f8.resultTypes.toList).any (Try.pinned.checked.prog.wideKeysFrom ·)) = true := by kernel_rfl
theorem gua_holds_c18 : (Rows.fnExactGuardsOfSpec.vars.all (Try.pinned.checked.prog.varReadable ·)) = true := by kernel_rfl
theorem gua_holds_c19 : (Try.f8.resultTypes.all (fun t => Try.pinned.checked.prog.readableRec t && decide (t < Try.pinned.checked.prog.types.size))) = true := by kernel_rfl
theorem gua_holds_c20 : (Rows.fnExactGuardsOfRow.ifacesOut == Try.f8.resultTypes.toList.any (Try.pinned.checked.prog.ifacesRec ·)) = true := by kernel_rfl
theorem gua_holds_c21 : (Rows.fnExactGuardsOfRow.loopsOut == Try.f8.resultTypes.toList.any (Try.pinned.checked.prog.loopsFrom ·)) = true := by kernel_rfl
theorem gua_holds_c22 : (Rows.fnExactGuardsOfRow.plainKeys == Try.pinned.checked.prog.plainKeys) = true := by kernel_rfl
theorem gua_holds_c23 : (Rows.fnExactGuardsOfRow.shortTexts.isNone) = true := by kernel_rfl
theorem gua_holds_c24 : (Try.pinned.checked.prog.stopsHeard) = true := by kernel_rfl
theorem gua_holds_c25 : (Try.pinned.checked.prog.mayEnter) = true := io_enter
theorem gua_holds_c26 : (Rows.fnExactGuardsOfRow.lifted == Try.pinned.checked.prog.liftsFinal) = true := by rw [io_lifts]; kernel_rfl
theorem gua_holds_c27 : (Try.pinned.checked.prog.make == some Rows.fnExactGuardsOfRow.make) = true := by rw [io_make]; kernel_rfl
theorem gua_holds_c28 : (Rows.fnExactGuardsOfRow.kinds == (if Rows.fnExactGuardsOfRow.domain.isEmpty then [] else Try.f8.params.toList.map fun t => match Try.pinned.checked.prog.underlying t with | some (.int k) => some k | _ => none)) = true := by kernel_rfl
theorem gua_holds_c29 : (Rows.fnExactGuardsOfRow.pinned == Rows.fnExactGuardsOfRow.pinnedBy) = true := by kernel_rfl
theorem gua_holds_c30 : (Rows.fnExactGuardsOfRow.veiled == (Try.f8.params.toList ++ Rows.fnExactGuardsOfSpec.plain.varTypes Try.pinned.checked.prog ++ Try.f8.resultTypes.toList).any (Try.pinned.checked.prog.veiledRec ·)) = true := by kernel_rfl
theorem gua_holds_c31 : (Rows.fnExactGuardsOfRow.veiledFits Try.pinned.checked.prog Try.f8.params.toList (Try.f8.params.toList ++ Rows.fnExactGuardsOfSpec.plain.varTypes Try.pinned.checked.prog ++ Try.f8.resultTypes.toList)) = true := by kernel_rfl
theorem gua_holds_and {a b : Bool} (h : a = true) (k : b = true) : (a && b) = true := by rw [h, k]; rfl
theorem gua_holds_closed : joinedFacts Try.pinned.checked.prog 8 Try.f8 Rows.fnExactGuardsOfSpec Rows.fnExactGuardsOfRow = true := (gua_holds_and (gua_holds_and (gua_holds_and (gua_holds_and (gua_holds_and (gua_holds_and (gua_holds_and (gua_holds_and (gua_holds_and (gua_holds_and (gua_holds_and (gua_holds_and (gua_holds_and (gua_holds_and (gua_holds_and (gua_holds_and (gua_holds_and (gua_holds_and (gua_holds_and (gua_holds_and (gua_holds_and (gua_holds_and (gua_holds_and (gua_holds_and (gua_holds_and (gua_holds_and (gua_holds_and (gua_holds_and (gua_holds_and (gua_holds_and (gua_holds_and gua_holds_c0 gua_holds_c1) gua_holds_c2) gua_holds_c3) gua_holds_c4) gua_holds_c5) gua_holds_c6) gua_holds_c7) gua_holds_c8) gua_holds_c9) gua_holds_c10) gua_holds_c11) gua_holds_c12) gua_holds_c13) gua_holds_c14) gua_holds_c15) gua_holds_c16) gua_holds_c17) gua_holds_c18) gua_holds_c19) gua_holds_c20) gua_holds_c21) gua_holds_c22) gua_holds_c23) gua_holds_c24) gua_holds_c25) gua_holds_c26) gua_holds_c27) gua_holds_c28) gua_holds_c29) gua_holds_c30) gua_holds_c31)
theorem gua_holds_named : Try.pinned.checked.prog.funcNamed Rows.fnExactGuardsOfRow.func = some 8 := by kernel_rfl
theorem gua_holds_inst : Try.f8.isInstance Try.pinned.checked.prog Rows.fnExactGuardsOfRow.origin Rows.fnExactGuardsOfRow.targs := of_decide_eq_true (by kernel_rfl)
theorem gua_holds_wrap : Try.f8.isWrapper Try.pinned.checked.prog Rows.fnExactGuardsOfRow.wrapper Rows.fnExactGuardsOfRow.mainSum := by unfold Func.isWrapper; first | (rw [if_pos (by decide +kernel)]; kernel_rfl) | (rw [if_neg (by decide +kernel)]; exact ⟨rfl, rfl⟩)
theorem gua_holds : Rows.FnExactGuardsOfSaid :=
  OpenClaim.holds_of_wide 8 Try.f8 rfl rfl rfl rfl rfl rfl rfl ⟨rfl, rfl, rfl, rfl, rfl⟩ rfl rfl rfl rfl rfl gua_holds_named Try.func8 gua_holds_closed gua_holds_inst gua_holds_wrap
    (fun os started H enc _ => gua_holds_lifted os started H enc)
#print axioms gua_holds
end Go.Proofs.Ytblhjeepelgdaaa

/- The law FnExactRingOf returns true for every argument and leaves it as it was: the given statement FnExactRingOfSaid. No condition. -/
import Derived.Test.YtokajpeopijneaaPkC151
import Derived.Test.YtokajpeopijneaaPkC150
namespace Go.Proofs.Ytokajpeopijneaa
open Go.RowKit
set_option linter.unusedVariables false
set_option maxRecDepth 100000
set_option linter.unusedSimpArgs false

set_option maxRecDepth 100000 in
set_option maxHeartbeats 16000000 in
theorem lawRio_walk (a0 : Option Addr) (n0 c0 : Nat) (l0 : List (Int × Int)) (w : World) (h0 : SlP w a0 l0) (hn0 : l0.length = n0) (hm0 : n0 ≤ maxLen) :
    Calls Try.prog 4 #[.slice a0 n0 c0] w fun e w' => e = .returned (.bool true) ∧ Below w.heap.size w w' := by
  obtain ⟨U, HU⟩ : ∃ U : List SD → Bool → Prop, Hid (U = AnsC (wayB l0) (fun _ => true) (coL l0)) := ⟨_, hide rfl⟩
  have US : Hid (∀ d ok d' ok', U d ok → U d' ok' → d = d' ∧ ok = ok') := hide (by rw [unhide HU]; exact fun d ok d' ok' h k => h.same k)
  have CS : Hid (∀ (a0 : Option Addr) (w : World), ArP w a0 n0 n0 l0 → Calls Try.prog 14 #[.slice a0 n0 n0] w (RetPrZ w U)) := hide (by rw [unhide HU]; exact fun a0 w h0 => RioS a0 n0 n0 l0 w h0)
  have CI : Hid (∀ (a0 : Option Addr) (w : World), ArP w a0 n0 n0 l0 → Calls Try.prog 15 #[.slice a0 n0 n0] w (RetPoZ w U)) := hide (by rw [unhide HU]; exact fun a0 w h0 => RioI a0 n0 n0 l0 w h0)
  clear HU
  have HS0 := hide h0
  have HN0 := hide hn0
  have HM0 := hide hm0
  clear h0 hn0 hm0
  go_enter Try.func4, Try.ntmps4
  have HB := hide (Below.refl w.heap.size w)
  go_wp2_with fail
  refine (szPs a0 n0 c0 1048576 _ (unhide HM0) (by omega) (by omega)).mono ?_
  rintro e ws ⟨hb, ⟨rfl, hl⟩ | ⟨rfl, hl⟩⟩
  · go_wp2_with fail
    go_ret
    exact ⟨rfl, hb⟩
  have d0 : decide ((1048576 : Int) - (n0 : Int) < 0) = false := decide_eq_false (by omega)
  have n1 : n0 ≤ 1048576 := by omega
  replace HB := hide (below_on (unhide HB) hb)
  clear hb hl
  have TT0 := hide (fun w1 (k : SlP w1 a0 l0) => toPs a0 n0 c0 l0 w1 k (unhide HN0) n1)
  go_wp2_with fail
  refine (unhide TT0 _ ((unhide HS0).later (unhide HB))).mono ?_
  rintro e ws ⟨rfl, hb, os⟩
  have szs := hb.size
  have lts := os.lt
  replace HB := hide (below_on (unhide HB) hb)
  have Os := hide os
  clear hb os
  go_wp2_with fail
  refine (unhide CS _ _ (unhide Os).arg).mono ?_
  rintro e wv ⟨av, nv, cv, lv, okv, rfl, hb, sv', lnv, uv⟩
  replace HB := hide (below_on (unhide HB) hb)
  have SV := hide sv'
  have LV := hide lnv
  have UV := hide uv
  have yw := (unhide HB).size
  clear hb sv' lnv uv Os
  have HV := hide (Below.refl wv.heap.size wv)
  go_wp2_with fail
  refine (unhide TT0 _ ((unhide HS0).later (unhide HB))).mono ?_
  rintro e wx ⟨rfl, hb, ox⟩
  have szx := hb.size
  have ltx := ox.lt
  replace HB := hide (below_on (unhide HB) hb)
  replace HV := hide (below_on (unhide HV) hb)
  have Ox := hide ox
  clear hb ox
  go_wp2_with fail
  refine (unhide CI _ _ (unhide Ox).arg).mono ?_
  rintro e wg ⟨ag, ng, cg, lg, okg, rfl, hb, og, ug⟩
  obtain ⟨e1, e2⟩ := unhide US _ _ _ _ (unhide UV) ug
  subst e2
  replace Ox := hide ((unhide Ox).later hb)
  replace HB := hide (below_on (unhide HB) hb)
  replace HV := hide (below_on (unhide HV) hb)
  have DG := hide e1
  have OG := hide og
  have yg := hb.size
  clear hb og ug e1
  have hng : Hid (ng = nv) := hide (by rw [← (unhide OG).len, ← unhide LV]; have h := congrArg List.length (unhide DG); simpa using h.symm)
  obtain rfl := unhide hng
  clear hng
  have HG : (okv == okv) = true := by simp
  go_wp2_with fail
  refine (eqPS _ _ _ _ _ lg lv _ (unhide OG).sl ((unhide SV).later (unhide HV)) (unhide OG).len ((unhide DG).symm) (unhide OG).max (unhide OG).lens).mono ?_
  rintro e wa1 ⟨rfl, hb⟩
  have szwa1 := hb.size
  replace Ox := hide ((unhide Ox).later hb)
  replace OG := hide ((unhide OG).later hb)
  replace HB := hide (below_on (unhide HB) hb)
  replace HV := hide (below_on (unhide HV) hb)
  clear hb
  go_wp2_with fail
  refine (unhide TT0 _ ((unhide HS0).later (unhide HB))).mono ?_
  rintro e wy ⟨rfl, hb, oy⟩
  have szy := hb.size
  have lty := oy.lt
  replace Ox := hide ((unhide Ox).later hb)
  replace OG := hide ((unhide OG).later hb)
  replace HB := hide (below_on (unhide HB) hb)
  replace HV := hide (below_on (unhide HV) hb)
  have Oy := hide oy
  clear hb oy
  go_wp2_with fail
  refine (eqPs _ _ n0 n0 n0 l0 _ (unhide Ox).arg.sl (unhide Oy).arg.sl (unhide HN0) (unhide HM0)).mono ?_
  rintro e wa2 ⟨rfl, hb⟩
  have szwa2 := hb.size
  replace Ox := hide ((unhide Ox).later hb)
  replace OG := hide ((unhide OG).later hb)
  replace HB := hide (below_on (unhide HB) hb)
  replace HV := hide (below_on (unhide HV) hb)
  clear hb Oy
  have gz := (unhide HB).size
  have gv := (unhide HV).size
  go_wp2_with fail
  refine (markPs wv.heap.size n0 n0 1 l0 _ (unhide Ox) n1 (by omega) (by omega)).mono ?_
  rintro e wm0 ⟨rfl, hbt, _⟩
  have szm0 := hbt.size
  have hk0 : decide ((1 : Int) + 2 * (n0 : Int) < 0) = false := decide_eq_false (by omega)
  replace OG := hide ((unhide OG).but hbt (.inr (by omega)))
  replace HB := hide (hbt.below (unhide HB) (by omega) (unhide HB).size)
  replace HV := hide (hbt.below (unhide HV) (Nat.le_refl _) (unhide HV).size)
  clear hbt Ox gz gv
  go_wp2_with fail
  refine (eqPS _ _ _ _ _ lg lv _ (unhide OG).sl ((unhide SV).later (unhide HV)) (unhide OG).len ((unhide DG).symm) (unhide OG).max (unhide OG).lens).mono ?_
  rintro e wa3 ⟨rfl, hb⟩
  have szwa3 := hb.size
  replace OG := hide ((unhide OG).later hb)
  replace HB := hide (below_on (unhide HB) hb)
  replace HV := hide (below_on (unhide HV) hb)
  clear hb
  clear hk0
  go_wp2_with fail
  refine (markRZ _ _ _ _ _ lg _ (unhide OG) (by omega)).mono ?_
  rintro e wm1 ⟨rfl, hbt, om⟩
  have LG := hide (And.intro (unhide OG).sz (unhide OG).ml)
  have nk : ¬ (enZ 1 lg < 0) := by rw [enZ_eq]; omega
  replace HB := hide (hbt.below (unhide HB) (by omega) (unhide HB).size)
  replace HV := hide (hbt.below (unhide HV) (by omega) (unhide HV).size)
  replace OG := hide om
  clear hbt om
  go_wp2_with fail
  refine (heldRZ _ _ _ _ _ lg _ (unhide OG) (unhide LG).1 (unhide LG).2).mono ?_
  rintro e wh1 ⟨rfl, rfl⟩
  go_wp2_with fail
  refine (unhide TT0 _ ((unhide HS0).later (unhide HB))).mono ?_
  rintro e wh ⟨rfl, hb, oh⟩
  have szh := hb.size
  have lth := oh.lt
  replace OG := hide ((unhide OG).later hb)
  replace HB := hide (below_on (unhide HB) hb)
  replace HV := hide (below_on (unhide HV) hb)
  have Oh := hide oh
  clear hb oh
  go_wp2_with fail
  refine (unhide CI _ _ (unhide Oh).arg).mono ?_
  rintro e wh ⟨ah, nh, ch, lh, okh, rfl, hb, oh, uh⟩
  obtain ⟨e1, e2⟩ := unhide US _ _ _ _ (unhide UV) uh
  subst e2
  replace OG := hide ((unhide OG).later hb)
  replace HB := hide (below_on (unhide HB) hb)
  replace HV := hide (below_on (unhide HV) hb)
  have DH := hide e1
  have OH := hide oh
  clear hb oh uh e1 Oh
  have hnh : Hid (nh = ng) := hide (by rw [← (unhide OH).len, ← unhide LV]; have h := congrArg List.length (unhide DH); simpa using h.symm)
  obtain rfl := unhide hnh
  clear hnh
  go_wp2_with fail
  refine (eqPS _ _ _ _ _ lh lv _ (unhide OH).sl ((unhide SV).later (unhide HV)) (unhide OH).len ((unhide DH).symm) (unhide OH).max (unhide OH).lens).mono ?_
  rintro e wa4 ⟨rfl, hb⟩
  have szwa4 := hb.size
  replace OG := hide ((unhide OG).later hb)
  replace OH := hide ((unhide OH).later hb)
  replace HB := hide (below_on (unhide HB) hb)
  replace HV := hide (below_on (unhide HV) hb)
  clear hb
  go_wp2_with fail
  refine (heldRZ _ _ _ _ _ lg _ (unhide OG) (unhide LG).1 (unhide LG).2).mono ?_
  rintro e wh2 ⟨rfl, rfl⟩
  go_wp2
  go_ret
  exact ⟨rfl, unhide HB⟩
end Go.Proofs.Ytokajpeopijneaa
namespace Go.Proofs.Ytokajpeopijneaa
open Go.ChangeShapes Go.WideShapes Go.ChangeAt Go.RowKit Go.Joins
set_option linter.unusedVariables false
set_option maxRecDepth 100000
set_option linter.unusedSimpArgs false

set_option maxRecDepth 100000 in
theorem rio_holds_lifted (os : Os) (started : os.Started) (H : Type) (enc : TypeId × Value → H) :
    ReturnsInHanded {} Try.checked os 4 .any (Rows.fnExactRingOfSpec.pre6 enc Try.prog Try.f4 Rows.fnExactRingOfRow.domain false) (Rows.fnExactRingOfSpec.post enc Try.prog Try.f4 false true false false) := by
  refine returnsInHanded_of_change (C := Try.checked) own started (by kernel_rfl) Try.func4
    (ChangeSpec.witness6 (enc := enc) (C := Try.checked) false ⟨#[], #[.slice none 0 0], []⟩ 8 (by kernel_rfl) (by kernel_rfl) (by kernel_rfl) (by kernel_rfl)) ?_
  intro W base args ds gs before hval0 hW hcnd _
  have hval : ∀ (j : Nat) t v, Try.f4.params[j]? = some t → args[j]? = some v → Value.okWide Try.prog W .any base t v := hval0
  have hW' := hW
  obtain ⟨p, q, hA0, hV, rfl, hfz, hnd⟩ := hW
  have hA : DataW.TrodAll enc Try.prog W 0 (fun _ => true) true Try.f4.params.toList args.toList ds p := hA0
  rw [Try.params4] at hA hval
  obtain ⟨v0, vs0, d0, ds0, p0, q0, hargs, rfl, rfl, h0, r0⟩ := trodAll_cons hA
  obtain ⟨rfl, rfl, rfl⟩ := trodAll_nil r0
  obtain rfl : args = #[v0] := by cases args; simp_all
  obtain ⟨rfl, rfl⟩ := trodVars_none hV
  have lt0 : ∀ x ∈ p0, x.block < W.heap.size := by obtain ⟨m, hm⟩ := h0; exact DataW.trod_lt m _ _ _ hm
  obtain ⟨a0, n0, c0, l0, rfl, sl0, hn0, hm0⟩ := open_TS (hval 0 22 v0 rfl rfl) h0
  clear hA0 hval0
  refine (lawRio_walk a0 n0 c0 l0 W sl0 hn0 hm0).mono fun e W' ⟨he, bel⟩ => ?_
  subst he
  exact ⟨_, rfl, _, _, _, [], _, [], hW', trodAll_mk1 (shut_bool Try.underlying4 _), (trodAll_cons_mk (Below.trod laidOut (by kernel_rfl) (of_decide_eq_true (by kernel_rfl)) h0 bel lt0) trodAll_mk0), rfl, bel.frame _, fun h => by cases h⟩

theorem rio_holds_c0 : (Rows.fnExactRingOfRow.wf (OpenSpec.ofChange Rows.fnExactRingOfSpec)) = true := by kernel_rfl
theorem rio_holds_c1 : (laidOutB Try.pinned.checked.prog) = true := by kernel_rfl
theorem rio_holds_c2 : (mapsRowed Try.pinned.checked.prog) = true := by kernel_rfl
theorem rio_holds_c3 : (Try.f4.params.all (Try.pinned.checked.prog.readableRec ·)) = true := by kernel_rfl
theorem rio_holds_c4 : (namedTie Try.pinned.checked.prog Rows.fnExactRingOfRow.named Rows.fnExactRingOfSpec.vars) = true := by kernel_rfl
theorem rio_holds_c5 : (Rows.fnExactRingOfRow.stops == []) = true := by kernel_rfl
theorem rio_holds_c6 : (Try.pinned.checked.prog.stops == []) = true := by kernel_rfl
theorem rio_holds_c7 : (Rows.fnExactRingOfRow.knobs == []) = true := by kernel_rfl
theorem rio_holds_c8 : (Try.pinned.checked.prog.stopKnobs == []) = true := by kernel_rfl
theorem rio_holds_c9 : (Rows.fnExactRingOfRow.inPlace == Try.pinned.checked.prog.inPlace 4) = true := by kernel_rfl
theorem rio_holds_c10 : (Rows.fnExactRingOfRow.unfollowed == Try.pinned.checked.prog.unfollowed 4) = true := by kernel_rfl
theorem rio_holds_c11 : (Rows.fnExactRingOfRow.recurses == Try.pinned.checked.prog.recurses 4) = true := by kernel_rfl
theorem rio_holds_c12 : (Rows.fnExactRingOfRow.named == Try.pinned.checked.prog.varsNamed 4) = true := by kernel_rfl
theorem rio_holds_c13 : (Rows.fnExactRingOfRow.maps == (Try.f4.params.toList ++ Rows.fnExactRingOfSpec.plain.varTypes Try.pinned.checked.prog).any (Try.pinned.checked.prog.mapsRec ·)) = true := by kernel_rfl
theorem rio_holds_c14 : (Rows.fnExactRingOfRow.ifaces == (Try.f4.params.toList ++ Rows.fnExactRingOfSpec.plain.varTypes Try.pinned.checked.prog).any (Try.pinned.checked.prog.ifacesRec ·)) = true := by kernel_rfl
theorem rio_holds_c15 : (Rows.fnExactRingOfRow.mapsOut == Try.pinned.checked.prog.mapsAmong Try.f4.resultTypes.toList) = true := by kernel_rfl
theorem rio_holds_c16 : (Rows.fnExactRingOfRow.loops == (Try.f4.params.toList ++ Rows.fnExactRingOfSpec.plain.varTypes Try.pinned.checked.prog).any (Try.pinned.checked.prog.loopsFrom ·)) = true := by kernel_rfl
theorem rio_holds_c17 : (Rows.fnExactRingOfRow.wideKeys == (Try.f4.params.toList ++ Rows.fnExactRingOfSpec.plain.varTypes Try.pinned.checked.prog ++ Try.f4.resultTypes.toList).any (Try.pinned.checked.prog.wideKeysFrom ·)) = true := by kernel_rfl
theorem rio_holds_c18 : (Rows.fnExactRingOfSpec.vars.all (Try.pinned.checked.prog.varReadable ·)) = true := by kernel_rfl
theorem rio_holds_c19 : (Try.f4.resultTypes.all (fun t => Try.pinned.checked.prog.readableRec t && decide (t < Try.pinned.checked.prog.types.size))) = true := by kernel_rfl
theorem rio_holds_c20 : (Rows.fnExactRingOfRow.ifacesOut == Try.f4.resultTypes.toList.any (Try.pinned.checked.prog.ifacesRec ·)) = true := by kernel_rfl
theorem rio_holds_c21 : (Rows.fnExactRingOfRow.loopsOut == Try.f4.resultTypes.toList.any (Try.pinned.checked.prog.loopsFrom ·)) = true := by kernel_rfl
theorem rio_holds_c22 : (Rows.fnExactRingOfRow.plainKeys == Try.pinned.checked.prog.plainKeys) = true := by kernel_rfl
theorem rio_holds_c23 : (Rows.fnExactRingOfRow.shortTexts.isNone) = true := by kernel_rfl
theorem rio_holds_c24 : (Try.pinned.checked.prog.stopsHeard) = true := by kernel_rfl
theorem rio_holds_c25 : (Try.pinned.checked.prog.mayEnter) = true := io_enter
theorem rio_holds_c26 : (Rows.fnExactRingOfRow.lifted == Try.pinned.checked.prog.liftsFinal) = true := by rw [io_lifts]; kernel_rfl
theorem rio_holds_c27 : (Try.pinned.checked.prog.make == some Rows.fnExactRingOfRow.make) = true := by rw [io_make]; kernel_rfl
theorem rio_holds_c28 : (Rows.fnExactRingOfRow.kinds == (if Rows.fnExactRingOfRow.domain.isEmpty then [] else Try.f4.params.toList.map fun t => match Try.pinned.checked.prog.underlying t with | some (.int k) => some k | _ => none)) = true := by kernel_rfl
theorem rio_holds_c29 : (Rows.fnExactRingOfRow.pinned == Rows.fnExactRingOfRow.pinnedBy) = true := by kernel_rfl
theorem rio_holds_c30 : (Rows.fnExactRingOfRow.veiled == (Try.f4.params.toList ++ Rows.fnExactRingOfSpec.plain.varTypes Try.pinned.checked.prog ++ Try.f4.resultTypes.toList).any (Try.pinned.checked.prog.veiledRec ·)) = true := by kernel_rfl
theorem rio_holds_c31 : (Rows.fnExactRingOfRow.veiledFits Try.pinned.checked.prog Try.f4.params.toList (Try.f4.params.toList ++ Rows.fnExactRingOfSpec.plain.varTypes Try.pinned.checked.prog ++ Try.f4.resultTypes.toList)) = true := by kernel_rfl
theorem rio_holds_and {a b : Bool} (h : a = true) (k : b = true) : (a && b) = true := by rw [h, k]; rfl
theorem rio_holds_closed : joinedFacts Try.pinned.checked.prog 4 Try.f4 Rows.fnExactRingOfSpec Rows.fnExactRingOfRow = true := (rio_holds_and (rio_holds_and (rio_holds_and (rio_holds_and (rio_holds_and (rio_holds_and (rio_holds_and (rio_holds_and (rio_holds_and (rio_holds_and (rio_holds_and (rio_holds_and (rio_holds_and (rio_holds_and (rio_holds_and (rio_holds_and (rio_holds_and (rio_holds_and (rio_holds_and (rio_holds_and (rio_holds_and (rio_holds_and (rio_holds_and (rio_holds_and (rio_holds_and (rio_holds_and (rio_holds_and (rio_holds_and (rio_holds_and (rio_holds_and (rio_holds_and rio_holds_c0 rio_holds_c1) rio_holds_c2) rio_holds_c3) rio_holds_c4) rio_holds_c5) rio_holds_c6) rio_holds_c7) rio_holds_c8) rio_holds_c9) rio_holds_c10) rio_holds_c11) rio_holds_c12) rio_holds_c13) rio_holds_c14) rio_holds_c15) rio_holds_c16) rio_holds_c17) rio_holds_c18) rio_holds_c19) rio_holds_c20) rio_holds_c21) rio_holds_c22) rio_holds_c23) rio_holds_c24) rio_holds_c25) rio_holds_c26) rio_holds_c27) rio_holds_c28) rio_holds_c29) rio_holds_c30) rio_holds_c31)
theorem rio_holds_named : Try.pinned.checked.prog.funcNamed Rows.fnExactRingOfRow.func = some 4 := by kernel_rfl
theorem rio_holds_inst : Try.f4.isInstance Try.pinned.checked.prog Rows.fnExactRingOfRow.origin Rows.fnExactRingOfRow.targs := of_decide_eq_true (by kernel_rfl)
theorem rio_holds_wrap : Try.f4.isWrapper Try.pinned.checked.prog Rows.fnExactRingOfRow.wrapper Rows.fnExactRingOfRow.mainSum := by unfold Func.isWrapper; first | (rw [if_pos (by decide +kernel)]; kernel_rfl) | (rw [if_neg (by decide +kernel)]; exact ⟨rfl, rfl⟩)
theorem rio_holds : Rows.FnExactRingOfSaid :=
  OpenClaim.holds_of_wide 4 Try.f4 rfl rfl rfl rfl rfl rfl rfl ⟨rfl, rfl, rfl, rfl, rfl⟩ rfl rfl rfl rfl rfl rio_holds_named Try.func4 rio_holds_closed rio_holds_inst rio_holds_wrap
    (fun os started H enc _ => rio_holds_lifted os started H enc)
#print axioms rio_holds
end Go.Proofs.Ytokajpeopijneaa

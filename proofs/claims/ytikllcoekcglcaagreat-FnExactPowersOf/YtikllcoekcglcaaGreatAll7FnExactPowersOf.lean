/- The law FnExactPowersOf returns true for every argument and leaves it as it was: the given statement FnExactPowersOfSaid. No condition. -/
import Derived.Test.YtikllcoekcglcaaGreatPkR6
import Derived.Test.YtikllcoekcglcaaGreatPkR4
namespace Go.Proofs.YtikllcoekcglcaaGreat
open Go.RowKit
set_option linter.unusedVariables false
set_option maxRecDepth 100000
set_option linter.unusedSimpArgs false

set_option maxRecDepth 100000 in
set_option maxHeartbeats 16000000 in
theorem lawPow_walk (a0 : Option Addr) (n0 c0 : Nat) (l0 : List (SV × SD)) (w : World) (h0 : PSlS w a0 l0) (hn0 : l0.length = n0) (hm0 : n0 ≤ maxLen) (ml0 : ∀ p ∈ l0, p.1.lo.num.n ≤ maxLen ∧ p.1.lo.den.n ≤ maxLen ∧ p.1.hi.num.n ≤ maxLen ∧ p.1.hi.den.n ≤ maxLen) :
    Calls Tryz.prog 10 #[.slice a0 n0 c0] w fun e w' => e = .returned (.bool true) ∧ Below w.heap.size w w' := by
  obtain ⟨U, HU⟩ : ∃ U : List SD → Bool → Prop, Hid (U = AnsC (gCv (l0.map Prod.snd)) (fun es => es.all f40) (pwL (vC l0))) := ⟨_, hide rfl⟩
  have US : Hid (∀ d ok d' ok', U d ok → U d' ok' → d = d' ∧ ok = ok') := hide (by rw [unhide HU]; exact fun d ok d' ok' h k => h.same k)
  have CS : Hid (∀ (a0 : Option Addr) (n0 c0 : Nat) (k0 : List (SV × SD)) (w : World), PArT w a0 n0 c0 k0 → k0.map Prod.snd = l0.map Prod.snd → Calls Tryz.prog 32 #[.slice a0 n0 c0] w (RetPrZ w U)) := hide (by rw [unhide HU]; exact fun a0 n0 c0 k0 w h0 e0 => by have := PowS a0 n0 c0 k0 w h0.ar h0.typ; rw [vC_eq e0, e0] at this; exact this)
  have CI : Hid (∀ (a0 : Option Addr) (n0 c0 : Nat) (k0 : List (SV × SD)) (w : World), PArS w a0 n0 c0 k0 → k0.map Prod.snd = l0.map Prod.snd → Calls Tryz.prog 31 #[.slice a0 n0 c0] w (RetPoZ w U)) := hide (by rw [unhide HU]; exact fun a0 n0 c0 k0 w h0 e0 => by have := PowI a0 n0 c0 k0 w h0; rw [vC_eq e0, e0] at this; exact this)
  clear HU
  have SZ0 := hide (fun w1 (left : Int) (b0 : 0 ≤ left) (b1 : left ≤ 1048576) (k : PSlS w1 a0 l0) => szPS a0 n0 c0 l0 left w1 k hn0 hm0 ml0 b0 b1)
  have HS0 := hide h0
  have HN0 := hide hn0
  clear h0 hn0 hm0 ml0
  go_enter Tryz.func10, Tryz.ntmps10
  have HB := hide (Below.refl w.heap.size w)
  go_wp2_with fail
  refine (unhide SZ0 _ 1048576 (by omega) (by omega) ((unhide HS0).later (unhide HB))).mono ?_
  rintro e ws0 ⟨r0, rfl, hb, hr⟩
  replace HB := hide (below_on (unhide HB) hb)
  clear hb SZ0
  by_cases hneg : r0 < 0
  · clear hr
    go_wp2
    go_ret
    exact ⟨rfl, unhide HB⟩
  have e0 : Hid (r0 = 1048576 - (n0 : Int) - (lenPS l0 : Int)) := hide (by
    rcases hr with e | e
    · exact absurd (show r0 < 0 by omega) hneg
    · exact e.2)
  clear hr
  have b0 : r0 ≤ 1048576 := by have := unhide e0; omega
  have p0 : 0 ≤ r0 := by omega
  have M0 : Hid (∀ p ∈ l0, p.1.lo.num.n ≤ 1048576 ∧ p.1.lo.den.n ≤ 1048576 ∧ p.1.hi.num.n ≤ 1048576 ∧ p.1.hi.den.n ≤ 1048576) := hide (fun p hp => by have h1 := lenPS_mem hp; have h2 : lenS p = p.1.lo.num.n + p.1.lo.den.n + p.1.hi.num.n + p.1.hi.den.n := rfl; have := unhide e0; omega)
  have Z0 : Hid (4 * n0 + lenPS l0 ≤ 4200000) := hide (by have := unhide e0; omega)
  have TT0 := hide (fun w1 (k : PSlS w1 a0 l0) => toPS a0 n0 c0 l0 w1 k (unhide HN0) (by have := unhide e0; omega) (unhide M0))
  go_wp2_with fail
  refine (unhide TT0 _ ((unhide HS0).later (unhide HB))).mono ?_
  rintro e ws0 ⟨ls0, rfl, hb, zs0, ds0, os0⟩
  replace HB := hide (below_on (unhide HB) hb)
  have Ds0 := hide ds0
  have Os0 := hide os0
  clear hb ds0 os0
  go_wp2_with fail
  refine (unhide CS _ _ _ _ _ (unhide Os0).argT (unhide Ds0)).mono ?_
  rintro e wv ⟨av, nv, cv, lv, okv, rfl, hb, sv', lnv, uv⟩
  replace HB := hide (below_on (unhide HB) hb)
  have SV := hide sv'
  have LV := hide lnv
  have UV := hide uv
  have yv := hb.size
  have yw := (unhide HB).size
  clear hb sv' lnv uv Os0 Ds0
  have HV := hide (Below.refl wv.heap.size wv)
  go_wp2_with fail
  refine (unhide TT0 _ ((unhide HS0).later (unhide HB))).mono ?_
  rintro e wx0 ⟨lx0, rfl, hb, zx0, dx0, ox0⟩
  replace HB := hide (below_on (unhide HB) hb)
  replace HV := hide (below_on (unhide HV) hb)
  have Dx0 := hide dx0
  have Ox0 := hide ox0
  clear hb dx0 ox0
  go_wp2_with fail
  refine (unhide CI _ _ _ _ _ (unhide Ox0).arg (unhide Dx0)).mono ?_
  rintro e wg ⟨ag, ng, cg, lg, okg, rfl, hb, og, ug⟩
  obtain ⟨e1, e2⟩ := unhide US _ _ _ _ (unhide UV) ug
  subst e2
  replace Ox0 := hide ((unhide Ox0).later hb)
  replace HB := hide (below_on (unhide HB) hb)
  replace HV := hide (below_on (unhide HV) hb)
  have DG := hide e1
  have OG := hide og
  have yg := hb.size
  clear hb og ug e1
  have hng : Hid (ng = nv) := hide (by rw [← (unhide OG).len, ← unhide LV]; have h := congrArg List.length (unhide DG); simpa using h.symm)
  obtain rfl := unhide hng
  clear hng
  have PX0 : Hid (PRoZ wv.heap.size wx0.heap.size wg (some ⟨wv.heap.size, 0, none⟩) n0 n0 lx0) := hide ((unhide Ox0).ro (Nat.lt_succ_self _) (by omega) (by rw [lenPS_sndZ (unhide Ox0).arg.sl (unhide HS0) (unhide Dx0)]; exact unhide Z0) (ml_sndZ (unhide Ox0).arg.sl (unhide HS0) (unhide Dx0) (unhide M0)))
  clear Ox0
  have HG : (okv == okv) = true := by simp
  go_wp2_with fail
  refine (eqPS _ _ _ _ _ lg lv _ (unhide OG).sl ((unhide SV).later (unhide HV)) (unhide OG).len ((unhide DG).symm) (unhide OG).max (unhide OG).lens).mono ?_
  rintro e w31 ⟨rfl, hb⟩
  have sz31 := hb.size
  replace OG := hide ((unhide OG).later hb)
  replace PX0 := hide ((unhide PX0).later hb)
  replace HB := hide (below_on (unhide HB) hb)
  replace HV := hide (below_on (unhide HV) hb)
  clear hb
  go_wp2_with fail
  refine (unhide TT0 _ ((unhide HS0).later (unhide HB))).mono ?_
  rintro e wy0 ⟨ly0, rfl, hb, zy0, dy0, oy0⟩
  have szy0 := hb.size
  replace OG := hide ((unhide OG).later hb)
  replace PX0 := hide ((unhide PX0).later hb)
  replace HB := hide (below_on (unhide HB) hb)
  replace HV := hide (below_on (unhide HV) hb)
  have Dy0 := hide dy0
  have Oy0 := hide oy0
  clear hb dy0 oy0
  go_wp2_with fail
  refine (eqPS _ _ n0 _ _ lx0 ly0 _ (unhide PX0).sl (unhide Oy0).arg.sl (unhide PX0).len ((unhide Dx0).trans (unhide Dy0).symm) (unhide PX0).max (unhide PX0).lens).mono ?_
  rintro e w32_0 ⟨rfl, hb⟩
  have sz32 := hb.size
  replace OG := hide ((unhide OG).later hb)
  replace PX0 := hide ((unhide PX0).later hb)
  replace HB := hide (below_on (unhide HB) hb)
  replace HV := hide (below_on (unhide HV) hb)
  clear hb Oy0 Dy0 zy0
  have WL : Hid (wg.heap.size ≤ w32_0.heap.size) := hide (Nat.le_trans sz31 (Nat.le_trans szy0 sz32))
  have gz := (unhide HB).size
  have gv := (unhide HV).size
  have ex : Hid (wx0.heap.size ≤ wg.heap.size) := hide yg
  go_wp2_with fail
  refine (markRZ _ _ _ n0 n0 lx0 _ (unhide PX0) (by have := unhide WL; omega)).mono ?_
  rintro e wm0 ⟨rfl, hbt, _⟩
  have szm0 := hbt.size
  have hk0 : decide (enZ 1 lx0 < 0) = false := decide_eq_false (by rw [enZ_eq]; omega)
  replace OG := hide ((unhide OG).but hbt (.inr (Nat.le_refl _)))
  replace HB := hide (hbt.below (unhide HB) (by omega) (unhide HB).size)
  replace HV := hide (hbt.below (unhide HV) (Nat.le_refl _) (unhide HV).size)
  clear hbt PX0 gz gv
  go_wp2_with fail
  refine (eqPS _ _ _ _ _ lg lv _ (unhide OG).sl ((unhide SV).later (unhide HV)) (unhide OG).len ((unhide DG).symm) (unhide OG).max (unhide OG).lens).mono ?_
  rintro e w41 ⟨rfl, hb⟩
  have sz41 := hb.size
  replace OG := hide ((unhide OG).later hb)
  replace HB := hide (below_on (unhide HB) hb)
  replace HV := hide (below_on (unhide HV) hb)
  clear hb
  clear hk0
  have G41 : Hid (wg.heap.size ≤ w41.heap.size) := hide (Nat.le_trans (unhide WL) (Nat.le_trans szm0 sz41))
  go_wp2_with fail
  refine (markRZ _ _ _ _ _ lg _ (unhide OG) (unhide G41)).mono ?_
  rintro e wm1 ⟨rfl, hbt, om⟩
  have LG := hide (And.intro (unhide OG).sz (unhide OG).ml)
  have nk : ¬ (enZ 1 lg < 0) := by rw [enZ_eq]; omega
  replace HB := hide (hbt.below (unhide HB) (by omega) (unhide HB).size)
  replace HV := hide (hbt.below (unhide HV) (by omega) (unhide HV).size)
  replace OG := hide om
  clear hbt om
  go_wp2_with fail
  refine (heldRZ _ _ _ _ _ lg _ (unhide OG) (unhide LG).1 (unhide LG).2).mono ?_
  rintro e wh1 ⟨rfl, rfl⟩
  go_wp2_with fail
  refine (unhide TT0 _ ((unhide HS0).later (unhide HB))).mono ?_
  rintro e wh0 ⟨lh0, rfl, hb, zh0, dh0, oh0⟩
  replace OG := hide ((unhide OG).later hb)
  replace HB := hide (below_on (unhide HB) hb)
  replace HV := hide (below_on (unhide HV) hb)
  have Dh0 := hide dh0
  have Oh0 := hide oh0
  clear hb dh0 oh0
  go_wp2_with fail
  refine (unhide CI _ _ _ _ _ (unhide Oh0).arg (unhide Dh0)).mono ?_
  rintro e wh ⟨ah, nh, ch, lh, okh, rfl, hb, oh, uh⟩
  obtain ⟨e1, e2⟩ := unhide US _ _ _ _ (unhide UV) uh
  subst e2
  replace OG := hide ((unhide OG).later hb)
  replace HB := hide (below_on (unhide HB) hb)
  replace HV := hide (below_on (unhide HV) hb)
  have DH := hide e1
  have OH := hide oh
  clear hb oh uh e1 Oh0 Dh0
  have hnh : Hid (nh = ng) := hide (by rw [← (unhide OH).len, ← unhide LV]; have h := congrArg List.length (unhide DH); simpa using h.symm)
  obtain rfl := unhide hnh
  clear hnh
  go_wp2_with fail
  refine (eqPS _ _ _ _ _ lh lv _ (unhide OH).sl ((unhide SV).later (unhide HV)) (unhide OH).len ((unhide DH).symm) (unhide OH).max (unhide OH).lens).mono ?_
  rintro e w51 ⟨rfl, hb⟩
  replace OG := hide ((unhide OG).later hb)
  replace OH := hide ((unhide OH).later hb)
  replace HB := hide (below_on (unhide HB) hb)
  replace HV := hide (below_on (unhide HV) hb)
  clear hb
  go_wp2_with fail
  refine (heldRZ _ _ _ _ _ lg _ (unhide OG) (unhide LG).1 (unhide LG).2).mono ?_
  rintro e wh2 ⟨rfl, rfl⟩
  go_wp2
  go_ret
  exact ⟨rfl, unhide HB⟩
end Go.Proofs.YtikllcoekcglcaaGreat
namespace Go.Proofs.YtikllcoekcglcaaGreat
open Go.ChangeShapes Go.WideShapes Go.ChangeAt Go.RowKit Go.Joins
set_option linter.unusedVariables false
set_option maxRecDepth 100000
set_option linter.unusedSimpArgs false

set_option maxRecDepth 100000 in
theorem pow_holds_lifted (os : Os) (started : os.Started) (H : Type) (enc : TypeId × Value → H) :
    ReturnsInHanded {} Tryz.checked os 10 .any (Rows.fnExactPowersOfSpec.pre6 enc Tryz.prog Tryz.f10 Rows.fnExactPowersOfRow.domain false) (Rows.fnExactPowersOfSpec.post enc Tryz.prog Tryz.f10 false true false false) := by
  refine returnsInHanded_of_change (C := Tryz.checked) own started (by kernel_rfl) Tryz.func10
    (ChangeSpec.witness6 (enc := enc) (C := Tryz.checked) false ⟨#[], #[.slice none 0 0], []⟩ 8 (by kernel_rfl) (by kernel_rfl) (by kernel_rfl) (by kernel_rfl)) ?_
  intro W base args ds gs before hval0 hW hcnd _
  have hval : ∀ (j : Nat) t v, Tryz.f10.params[j]? = some t → args[j]? = some v → Value.okWide Tryz.prog W .any base t v := hval0
  have hW' := hW
  obtain ⟨p, q, hA0, hV, rfl, hfz, hnd⟩ := hW
  have hA : DataW.TrodAll enc Tryz.prog W 0 (fun _ => true) true Tryz.f10.params.toList args.toList ds p := hA0
  rw [Tryz.params10] at hA hval
  obtain ⟨v0, vs0, d0, ds0, p0, q0, hargs, rfl, rfl, h0, r0⟩ := trodAll_cons hA
  obtain ⟨rfl, rfl, rfl⟩ := trodAll_nil r0
  obtain rfl : args = #[v0] := by cases args; simp_all
  obtain ⟨rfl, rfl⟩ := trodVars_none hV
  have lt0 : ∀ x ∈ p0, x.block < W.heap.size := by obtain ⟨m, hm⟩ := h0; exact DataW.trod_lt m _ _ _ hm
  obtain ⟨a0, n0, c0, l0, rfl, sl0, hn0, hm0, ml0⟩ := open_PS (hval 0 66 v0 rfl rfl) h0
  clear hA0 hval0
  refine (lawPow_walk a0 n0 c0 l0 W sl0 hn0 hm0 ml0).mono fun e W' ⟨he, bel⟩ => ?_
  subst he
  exact ⟨_, rfl, _, _, _, [], _, [], hW', trodAll_mk1 (shut_bool Tryz.underlying4 _), (trodAll_cons_mk (Below.trod laidOut (by kernel_rfl) (of_decide_eq_true (by kernel_rfl)) h0 bel lt0) trodAll_mk0), rfl, bel.frame _, fun h => by cases h⟩

theorem pow_holds_c0 : (Rows.fnExactPowersOfRow.wf (OpenSpec.ofChange Rows.fnExactPowersOfSpec)) = true := by kernel_rfl
theorem pow_holds_c1 : (laidOutB Tryz.pinned.checked.prog) = true := by kernel_rfl
theorem pow_holds_c2 : (mapsRowed Tryz.pinned.checked.prog) = true := by kernel_rfl
theorem pow_holds_c3 : (Tryz.f10.params.all (Tryz.pinned.checked.prog.readableRec ·)) = true := by kernel_rfl
theorem pow_holds_c4 : (namedTie Tryz.pinned.checked.prog Rows.fnExactPowersOfRow.named Rows.fnExactPowersOfSpec.vars) = true := by kernel_rfl
theorem pow_holds_c5 : (Rows.fnExactPowersOfRow.stops == []) = true := by kernel_rfl
theorem pow_holds_c6 : (Tryz.pinned.checked.prog.stops == []) = true := by kernel_rfl
theorem pow_holds_c7 : (Rows.fnExactPowersOfRow.knobs == []) = true := by kernel_rfl
theorem pow_holds_c8 : (Tryz.pinned.checked.prog.stopKnobs == []) = true := by kernel_rfl
theorem pow_holds_c9 : (Rows.fnExactPowersOfRow.inPlace == Tryz.pinned.checked.prog.inPlace 10) = true := by kernel_rfl
theorem pow_holds_c10 : (Rows.fnExactPowersOfRow.unfollowed == Tryz.pinned.checked.prog.unfollowed 10) = true := by kernel_rfl
theorem pow_holds_c11 : (Rows.fnExactPowersOfRow.recurses == Tryz.pinned.checked.prog.recurses 10) = true := by kernel_rfl
theorem pow_holds_c12 : (Rows.fnExactPowersOfRow.named == Tryz.pinned.checked.prog.varsNamed 10) = true := by kernel_rfl
theorem pow_holds_c13 : (Rows.fnExactPowersOfRow.maps == (Tryz.f10.params.toList ++ Rows.fnExactPowersOfSpec.plain.varTypes Tryz.pinned.checked.prog).any (Tryz.pinned.checked.prog.mapsRec ·)) = true := by kernel_rfl
theorem pow_holds_c14 : (Rows.fnExactPowersOfRow.ifaces == (Tryz.f10.params.toList ++ Rows.fnExactPowersOfSpec.plain.varTypes Tryz.pinned.checked.prog).any (Tryz.pinned.checked.prog.ifacesRec ·)) = true := by kernel_rfl
theorem pow_holds_c15 : (Rows.fnExactPowersOfRow.mapsOut == Tryz.pinned.checked.prog.mapsAmong Tryz.f10.resultTypes.toList) = true := by kernel_rfl
theorem pow_holds_c16 : (Rows.fnExactPowersOfRow.loops == (Tryz.f10.params.toList ++ Rows.fnExactPowersOfSpec.plain.varTypes Tryz.pinned.checked.prog).any (Tryz.pinned.checked.prog.loopsFrom ·)) = true := by kernel_rfl
theorem pow_holds_c17 : (Rows.fnExactPowersOfRow.wideKeys == (Tryz.f10.params.toList ++ Rows.fnExactPowersOfSpec.plain.varTypes Tryz.pinned.checked.prog ++ Tryz.f10.resultTypes.toList).any (Tryz.pinned.checked.prog.wideKeysFrom ·)) = true := by kernel_rfl
theorem pow_holds_c18 : (Rows.fnExactPowersOfSpec.vars.all (Tryz.pinned.checked.prog.varReadable ·)) = true := by kernel_rfl
theorem pow_holds_c19 : (Tryz.f10.resultTypes.all (fun t => Tryz.pinned.checked.prog.readableRec t && decide (t < Tryz.pinned.checked.prog.types.size))) = true := by kernel_rfl
theorem pow_holds_c20 : (Rows.fnExactPowersOfRow.ifacesOut == Tryz.f10.resultTypes.toList.any (Tryz.pinned.checked.prog.ifacesRec ·)) = true := by kernel_rfl
theorem pow_holds_c21 : (Rows.fnExactPowersOfRow.loopsOut == Tryz.f10.resultTypes.toList.any (Tryz.pinned.checked.prog.loopsFrom ·)) = true := by kernel_rfl
theorem pow_holds_c22 : (Rows.fnExactPowersOfRow.plainKeys == Tryz.pinned.checked.prog.plainKeys) = true := by kernel_rfl
theorem pow_holds_c23 : (Rows.fnExactPowersOfRow.shortTexts.isNone) = true := by kernel_rfl
theorem pow_holds_c24 : (Tryz.pinned.checked.prog.stopsHeard) = true := by kernel_rfl
theorem pow_holds_c25 : (Tryz.pinned.checked.prog.mayEnter) = true := io_enter
theorem pow_holds_c26 : (Rows.fnExactPowersOfRow.lifted == Tryz.pinned.checked.prog.liftsFinal) = true := by rw [io_lifts]; kernel_rfl
theorem pow_holds_c27 : (Tryz.pinned.checked.prog.make == some Rows.fnExactPowersOfRow.make) = true := by rw [io_make]; kernel_rfl
theorem pow_holds_c28 : (Rows.fnExactPowersOfRow.kinds == (if Rows.fnExactPowersOfRow.domain.isEmpty then [] else Tryz.f10.params.toList.map fun t => match Tryz.pinned.checked.prog.underlying t with | some (.int k) => some k | _ => none)) = true := by kernel_rfl
theorem pow_holds_c29 : (Rows.fnExactPowersOfRow.pinned == Rows.fnExactPowersOfRow.pinnedBy) = true := by kernel_rfl
theorem pow_holds_c30 : (Rows.fnExactPowersOfRow.veiled == (Tryz.f10.params.toList ++ Rows.fnExactPowersOfSpec.plain.varTypes Tryz.pinned.checked.prog ++ Tryz.f10.resultTypes.toList).any (Tryz.pinned.checked.prog.veiledRec ·)) = true := by kernel_rfl
theorem pow_holds_c31 : (Rows.fnExactPowersOfRow.veiledFits Tryz.pinned.checked.prog Tryz.f10.params.toList (Tryz.f10.params.toList ++ Rows.fnExactPowersOfSpec.plain.varTypes Tryz.pinned.checked.prog ++ Tryz.f10.resultTypes.toList)) = true := by kernel_rfl
theorem pow_holds_and {a b : Bool} (h : a = true) (k : b = true) : (a && b) = true := by rw [h, k]; rfl
theorem pow_holds_closed : joinedFacts Tryz.pinned.checked.prog 10 Tryz.f10 Rows.fnExactPowersOfSpec Rows.fnExactPowersOfRow = true := (pow_holds_and (pow_holds_and (pow_holds_and (pow_holds_and (pow_holds_and (pow_holds_and (pow_holds_and (pow_holds_and (pow_holds_and (pow_holds_and (pow_holds_and (pow_holds_and (pow_holds_and (pow_holds_and (pow_holds_and (pow_holds_and (pow_holds_and (pow_holds_and (pow_holds_and (pow_holds_and (pow_holds_and (pow_holds_and (pow_holds_and (pow_holds_and (pow_holds_and (pow_holds_and (pow_holds_and (pow_holds_and (pow_holds_and (pow_holds_and (pow_holds_and pow_holds_c0 pow_holds_c1) pow_holds_c2) pow_holds_c3) pow_holds_c4) pow_holds_c5) pow_holds_c6) pow_holds_c7) pow_holds_c8) pow_holds_c9) pow_holds_c10) pow_holds_c11) pow_holds_c12) pow_holds_c13) pow_holds_c14) pow_holds_c15) pow_holds_c16) pow_holds_c17) pow_holds_c18) pow_holds_c19) pow_holds_c20) pow_holds_c21) pow_holds_c22) pow_holds_c23) pow_holds_c24) pow_holds_c25) pow_holds_c26) pow_holds_c27) pow_holds_c28) pow_holds_c29) pow_holds_c30) pow_holds_c31)
theorem pow_holds_named : Tryz.pinned.checked.prog.funcNamed Rows.fnExactPowersOfRow.func = some 10 := by kernel_rfl
theorem pow_holds_inst : Tryz.f10.isInstance Tryz.pinned.checked.prog Rows.fnExactPowersOfRow.origin Rows.fnExactPowersOfRow.targs := of_decide_eq_true (by kernel_rfl)
theorem pow_holds_wrap : Tryz.f10.isWrapper Tryz.pinned.checked.prog Rows.fnExactPowersOfRow.wrapper Rows.fnExactPowersOfRow.mainSum := by unfold Func.isWrapper; first | (rw [if_pos (by decide +kernel)]; kernel_rfl) | (rw [if_neg (by decide +kernel)]; exact ⟨rfl, rfl⟩)
theorem pow_holds : Rows.FnExactPowersOfSaid :=
  OpenClaim.holds_of_wide 10 Tryz.f10 rfl rfl rfl rfl rfl rfl rfl ⟨rfl, rfl, rfl, rfl, rfl⟩ rfl rfl rfl rfl rfl pow_holds_named Tryz.func10 pow_holds_closed pow_holds_inst pow_holds_wrap
    (fun os started H enc _ => pow_holds_lifted os started H enc)
#print axioms pow_holds
end Go.Proofs.YtikllcoekcglcaaGreat

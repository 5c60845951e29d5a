/- The law FnExactGoodCurve returns true for every argument and leaves it as it was: the given statement FnExactGoodCurveSaid. No condition. -/
import Derived.Test.YtikllcoekcglcaaPkQ1
import Derived.Test.YtikllcoekcglcaaPkQ2
namespace Go.Proofs.Ytikllcoekcglcaa
open Go.RowKit
set_option linter.unusedVariables false
set_option maxRecDepth 100000
set_option linter.unusedSimpArgs false

set_option maxRecDepth 100000 in
set_option maxHeartbeats 16000000 in
theorem lawGcv_walk (a0 : Option Addr) (n0 c0 : Nat) (l0 : List (SV × SD))   (w : World) (h0 : PSlS w a0 l0) (hn0 : l0.length = n0)  (hm0 : n0 ≤ maxLen) (ml0 : ∀ p ∈ l0, p.1.lo.num.n ≤ maxLen ∧ p.1.lo.den.n ≤ maxLen ∧ p.1.hi.num.n ≤ maxLen ∧ p.1.hi.den.n ≤ maxLen)  :
    Calls Try.prog 3 #[.slice a0 n0 c0] w fun e w' => e = .returned (.bool true) ∧ Below w.heap.size w w' := by
  obtain ⟨b0, Hb0⟩ : ∃ b0 : Bool, Hid (b0 = (gCv (l0.map Prod.snd))) := ⟨_, hide rfl⟩
  have CS : Hid (∀ (a : Option Addr) (n c : Nat) (k : List (SV × SD))  (w : World), PArS w a n c k → k.map Prod.snd = l0.map Prod.snd → Calls Try.prog 10 #[.slice a n c] w fun e w' => e = .returned (.bool b0) ∧ Below w.heap.size w w') := hide (by rw [unhide Hb0]; exact fun a n c k w h e => by have := GoodCS a n c k w h; rw [e] at this; exact this)
  have CI : Hid (∀ (a : Option Addr) (n c : Nat) (k : List (SV × SD))  (w : World), PArS w a n c k → k.map Prod.snd = l0.map Prod.snd → Calls Try.prog 12 #[.slice a n c] w fun e w' => e = .returned (.bool b0) ∧ Below w.heap.size w w') := hide (by rw [unhide Hb0]; exact fun a n c k w h e => by have := GoodCI a n c k w h; rw [e] at this; exact this)
  clear Hb0
  have SZ0 := hide (fun w1 (left : Int) (b0 : 0 ≤ left) (b1 : left ≤ 1048576) (k : PSlS w1 a0 l0) => szPS a0 n0 c0 l0 left w1 k hn0 hm0 ml0 b0 b1)
  have HS0 := hide h0
  have HN0 := hide hn0
  clear h0 hn0 hm0 ml0 
  have HB := hide (Below.refl w.heap.size w)
  go_enter Try.func3, Try.ntmps3
  go_wp2_with fail
  refine (unhide SZ0 _ 1048576 (by omega) (by omega) ((unhide HS0).later (unhide HB))).mono ?_
  rintro e ws0 ⟨r0, rfl, hb, hr⟩
  replace HB := hide (below_on (unhide HB) hb)
  clear hb SZ0
  by_cases hneg : r0 < 0
  · clear hr
    go_wp2
    go_ret
    exact ⟨rfl, (unhide HB)⟩
  have e0 : Hid (r0 = 1048576 - (n0 : Int) - (lenPS l0 : Int)) := hide (by
    rcases hr with e | e
    · exact absurd (show r0 < 0 by omega) hneg
    · exact e.2)
  clear hr
  have b0 : r0 ≤ 1048576 := by have := unhide e0; omega
  have p0 : 0 ≤ r0 := by omega
  have M0 : Hid (∀ p ∈ l0, p.1.lo.num.n ≤ 1048576 ∧ p.1.lo.den.n ≤ 1048576 ∧ p.1.hi.num.n ≤ 1048576 ∧ p.1.hi.den.n ≤ 1048576) := hide (fun p hp => by have h1 := lenPS_mem hp; have h2 : lenS p = p.1.lo.num.n + p.1.lo.den.n + p.1.hi.num.n + p.1.hi.den.n := rfl; have := unhide e0; omega)
  have TT0 := hide (fun w1 (k : PSlS w1 a0 l0) => toPS a0 n0 c0 l0 w1 k (unhide HN0) (by have := unhide e0; omega) (unhide M0))
  go_wp2_with fail
  refine (unhide TT0 _ ((unhide HS0).later (unhide HB))).mono ?_
  rintro e wa0 ⟨lA, rfl, hb, zA, dA, oA⟩
  replace HB := hide (below_on (unhide HB) hb)
  have A0 := hide oA
  have DA := hide dA
  clear hb zA dA oA
  go_wp2_with fail
  refine (unhide CS _ _ _ lA _ (unhide A0).arg (unhide DA)).mono ?_
  rintro e w5 ⟨rfl, hb⟩
  replace HB := hide (below_on (unhide HB) hb)
  clear hb A0 DA
  go_wp2_with fail
  refine (unhide TT0 _ ((unhide HS0).later (unhide HB))).mono ?_
  rintro e wx0 ⟨lX, rfl, hb, zX, dX, oX⟩
  replace HB := hide (below_on (unhide HB) hb)
  have OX := hide oX
  have DX := hide dX
  clear hb zX dX oX
  go_wp2_with fail
  refine (unhide CI _ _ _ lX  _ (unhide OX).arg (unhide DX) ).mono ?_
  rintro e w6 ⟨rfl, hb⟩
  replace OX := hide ((unhide OX).later hb)
  replace HB := hide (below_on (unhide HB) hb)
  clear hb
  go_wp2_with fail
  refine (unhide TT0 _ ((unhide HS0).later (unhide HB))).mono ?_
  rintro e wy0 ⟨lY, rfl, hb, zY, dY, oY⟩
  replace OX := hide ((unhide OX).later hb)
  replace HB := hide (below_on (unhide HB) hb)
  have OY := hide oY
  have DY := hide dY
  clear hb zY dY oY
  go_wp2_with fail
  refine (eqPS _ _ n0 _ _ lX lY _ (unhide OX).arg.sl (unhide OY).arg.sl (unhide OX).len ((unhide DX).trans (unhide DY).symm) (Nat.le_trans (unhide OX).arg.cap (unhide OX).arg.top) (fun p hp => ⟨Nat.le_trans ((unhide OX).ar p hp).head.ar.cap ((unhide OX).ar p hp).head.ar.top, Nat.le_trans ((unhide OX).ar p hp).tail.head.ar.cap ((unhide OX).ar p hp).tail.head.ar.top, Nat.le_trans ((unhide OX).ar p hp).tail.tail.head.ar.cap ((unhide OX).ar p hp).tail.tail.head.ar.top, Nat.le_trans ((unhide OX).ar p hp).tail.tail.tail.head.ar.cap ((unhide OX).ar p hp).tail.tail.tail.head.ar.top⟩)).mono ?_
  rintro e wy1 ⟨rfl, hb⟩
  replace OX := hide ((unhide OX).later hb)
  replace HB := hide (below_on (unhide HB) hb)
  clear hb OY DY
  go_wp2
  go_ret
  exact ⟨rfl, (unhide HB)⟩
end Go.Proofs.Ytikllcoekcglcaa
namespace Go.Proofs.Ytikllcoekcglcaa
open Go.ChangeShapes Go.WideShapes Go.ChangeAt Go.RowKit Go.Joins
set_option linter.unusedVariables false
set_option maxRecDepth 100000
set_option linter.unusedSimpArgs false

set_option maxRecDepth 100000 in
theorem gcv_holds_lifted (os : Os) (started : os.Started) (H : Type) (enc : TypeId × Value → H) :
    ReturnsInHanded {} Try.checked os 3 .any (Rows.fnExactGoodCurveSpec.pre6 enc Try.prog Try.f3 Rows.fnExactGoodCurveRow.domain false) (Rows.fnExactGoodCurveSpec.post enc Try.prog Try.f3 false true false false) := by
  refine returnsInHanded_of_change (C := Try.checked) own started (by kernel_rfl) Try.func3
    (ChangeSpec.witness6 (enc := enc) (C := Try.checked) false ⟨#[], #[.slice none 0 0], []⟩ 8 (by kernel_rfl) (by kernel_rfl) (by kernel_rfl) (by kernel_rfl)) ?_
  intro W base args ds gs before hval0 hW hcnd _
  have hval : ∀ (j : Nat) t v, Try.f3.params[j]? = some t → args[j]? = some v → Value.okWide Try.prog W .any base t v := hval0
  have hW' := hW
  obtain ⟨p, q, hA0, hV, rfl, hfz, hnd⟩ := hW
  have hA : DataW.TrodAll enc Try.prog W 0 (fun _ => true) true Try.f3.params.toList args.toList ds p := hA0
  rw [Try.params3] at hA hval
  obtain ⟨v0, vs0, d0, ds0, p0, q0, hargs, rfl, rfl, h0, r0⟩ := trodAll_cons hA
  obtain ⟨rfl, rfl, rfl⟩ := trodAll_nil r0
  obtain rfl : args = #[v0] := by cases args; simp_all
  obtain ⟨rfl, rfl⟩ := trodVars_none hV
  have lt0 : ∀ x ∈ p0, x.block < W.heap.size := by obtain ⟨m, hm⟩ := h0; exact DataW.trod_lt m _ _ _ hm
  obtain ⟨a0, n0, c0, l0, rfl, sl0, hn0, hm0, ml0⟩ := open_PS (hval 0 22 v0 rfl rfl) h0
  clear hA0 hval0
  refine (lawGcv_walk a0 n0 c0 l0 W sl0 hn0 hm0 ml0).mono fun e W' ⟨he, bel⟩ => ?_
  subst he
  exact ⟨_, rfl, _, _, _, [], _, [], hW', trodAll_mk1 (shut_bool Try.underlying4 _), (trodAll_cons_mk (Below.trod laidOut (by kernel_rfl) (of_decide_eq_true (by kernel_rfl)) h0 bel lt0) trodAll_mk0), rfl, bel.frame _, fun h => by cases h⟩

theorem gcv_holds_c0 : (Rows.fnExactGoodCurveRow.wf (OpenSpec.ofChange Rows.fnExactGoodCurveSpec)) = true := by kernel_rfl
theorem gcv_holds_c1 : (laidOutB Try.pinned.checked.prog) = true := by kernel_rfl
theorem gcv_holds_c2 : (mapsRowed Try.pinned.checked.prog) = true := by kernel_rfl
theorem gcv_holds_c3 : (Try.f3.params.all (Try.pinned.checked.prog.readableRec ·)) = true := by kernel_rfl
theorem gcv_holds_c4 : (namedTie Try.pinned.checked.prog Rows.fnExactGoodCurveRow.named Rows.fnExactGoodCurveSpec.vars) = true := by kernel_rfl
theorem gcv_holds_c5 : (Rows.fnExactGoodCurveRow.stops == []) = true := by kernel_rfl
theorem gcv_holds_c6 : (Try.pinned.checked.prog.stops == []) = true := by kernel_rfl
theorem gcv_holds_c7 : (Rows.fnExactGoodCurveRow.knobs == []) = true := by kernel_rfl
theorem gcv_holds_c8 : (Try.pinned.checked.prog.stopKnobs == []) = true := by kernel_rfl
theorem gcv_holds_c9 : (Rows.fnExactGoodCurveRow.inPlace == Try.pinned.checked.prog.inPlace 3) = true := by kernel_rfl
theorem gcv_holds_c10 : (Rows.fnExactGoodCurveRow.unfollowed == Try.pinned.checked.prog.unfollowed 3) = true := by kernel_rfl
theorem gcv_holds_c11 : (Rows.fnExactGoodCurveRow.recurses == Try.pinned.checked.prog.recurses 3) = true := by kernel_rfl
theorem gcv_holds_c12 : (Rows.fnExactGoodCurveRow.named == Try.pinned.checked.prog.varsNamed 3) = true := by kernel_rfl
theorem gcv_holds_c13 : (Rows.fnExactGoodCurveRow.maps == (Try.f3.params.toList ++ Rows.fnExactGoodCurveSpec.plain.varTypes Try.pinned.checked.prog).any (Try.pinned.checked.prog.mapsRec ·)) = true := by kernel_rfl
theorem gcv_holds_c14 : (Rows.fnExactGoodCurveRow.ifaces == (Try.f3.params.toList ++ Rows.fnExactGoodCurveSpec.plain.varTypes Try.pinned.checked.prog).any (Try.pinned.checked.prog.ifacesRec ·)) = true := by kernel_rfl
theorem gcv_holds_c15 : (Rows.fnExactGoodCurveRow.mapsOut == Try.pinned.checked.prog.mapsAmong Try.f3.resultTypes.toList) = true := by kernel_rfl
theorem gcv_holds_c16 : (Rows.fnExactGoodCurveRow.loops == (Try.f3.params.toList ++ Rows.fnExactGoodCurveSpec.plain.varTypes Try.pinned.checked.prog).any (Try.pinned.checked.prog.loopsFrom ·)) = true := by kernel_rfl
theorem gcv_holds_c17 : (Rows.fnExactGoodCurveRow.wideKeys == (Try.f3.params.toList ++ Rows.fnExactGoodCurveSpec.plain.varTypes Try.pinned.checked.prog ++ Try.f3.resultTypes.toList).any (Try.pinned.checked.prog.wideKeysFrom ·)) = true := by kernel_rfl
theorem gcv_holds_c18 : (Rows.fnExactGoodCurveSpec.vars.all (Try.pinned.checked.prog.varReadable ·)) = true := by kernel_rfl
theorem gcv_holds_c19 : (Try.f3.resultTypes.all (fun t => Try.pinned.checked.prog.readableRec t && decide (t < Try.pinned.checked.prog.types.size))) = true := by kernel_rfl
theorem gcv_holds_c20 : (Rows.fnExactGoodCurveRow.ifacesOut == Try.f3.resultTypes.toList.any (Try.pinned.checked.prog.ifacesRec ·)) = true := by kernel_rfl
theorem gcv_holds_c21 : (Rows.fnExactGoodCurveRow.loopsOut == Try.f3.resultTypes.toList.any (Try.pinned.checked.prog.loopsFrom ·)) = true := by kernel_rfl
theorem gcv_holds_c22 : (Rows.fnExactGoodCurveRow.plainKeys == Try.pinned.checked.prog.plainKeys) = true := by kernel_rfl
theorem gcv_holds_c23 : (Rows.fnExactGoodCurveRow.shortTexts.isNone) = true := by kernel_rfl
theorem gcv_holds_c24 : (Try.pinned.checked.prog.stopsHeard) = true := by kernel_rfl
theorem gcv_holds_c25 : (Try.pinned.checked.prog.mayEnter) = true := io_enter
theorem gcv_holds_c26 : (Rows.fnExactGoodCurveRow.lifted == Try.pinned.checked.prog.liftsFinal) = true := by rw [io_lifts]; kernel_rfl
theorem gcv_holds_c27 : (Try.pinned.checked.prog.make == some Rows.fnExactGoodCurveRow.make) = true := by rw [io_make]; kernel_rfl
theorem gcv_holds_c28 : (Rows.fnExactGoodCurveRow.kinds == (if Rows.fnExactGoodCurveRow.domain.isEmpty then [] else Try.f3.params.toList.map fun t => match Try.pinned.checked.prog.underlying t with | some (.int k) => some k | _ => none)) = true := by kernel_rfl
theorem gcv_holds_c29 : (Rows.fnExactGoodCurveRow.pinned == Rows.fnExactGoodCurveRow.pinnedBy) = true := by kernel_rfl
theorem gcv_holds_c30 : (Rows.fnExactGoodCurveRow.veiled == (Try.f3.params.toList ++ Rows.fnExactGoodCurveSpec.plain.varTypes Try.pinned.checked.prog ++ Try.f3.resultTypes.toList).any (Try.pinned.checked.prog.veiledRec ·)) = true := by kernel_rfl
theorem gcv_holds_c31 : (Rows.fnExactGoodCurveRow.veiledFits Try.pinned.checked.prog Try.f3.params.toList (Try.f3.params.toList ++ Rows.fnExactGoodCurveSpec.plain.varTypes Try.pinned.checked.prog ++ Try.f3.resultTypes.toList)) = true := by kernel_rfl
theorem gcv_holds_and {a b : Bool} (h : a = true) (k : b = true) : (a && b) = true := by rw [h, k]; rfl
theorem gcv_holds_closed : joinedFacts Try.pinned.checked.prog 3 Try.f3 Rows.fnExactGoodCurveSpec Rows.fnExactGoodCurveRow = true := (gcv_holds_and (gcv_holds_and (gcv_holds_and (gcv_holds_and (gcv_holds_and (gcv_holds_and (gcv_holds_and (gcv_holds_and (gcv_holds_and (gcv_holds_and (gcv_holds_and (gcv_holds_and (gcv_holds_and (gcv_holds_and (gcv_holds_and (gcv_holds_and (gcv_holds_and (gcv_holds_and (gcv_holds_and (gcv_holds_and (gcv_holds_and (gcv_holds_and (gcv_holds_and (gcv_holds_and (gcv_holds_and (gcv_holds_and (gcv_holds_and (gcv_holds_and (gcv_holds_and (gcv_holds_and (gcv_holds_and gcv_holds_c0 gcv_holds_c1) gcv_holds_c2) gcv_holds_c3) gcv_holds_c4) gcv_holds_c5) gcv_holds_c6) gcv_holds_c7) gcv_holds_c8) gcv_holds_c9) gcv_holds_c10) gcv_holds_c11) gcv_holds_c12) gcv_holds_c13) gcv_holds_c14) gcv_holds_c15) gcv_holds_c16) gcv_holds_c17) gcv_holds_c18) gcv_holds_c19) gcv_holds_c20) gcv_holds_c21) gcv_holds_c22) gcv_holds_c23) gcv_holds_c24) gcv_holds_c25) gcv_holds_c26) gcv_holds_c27) gcv_holds_c28) gcv_holds_c29) gcv_holds_c30) gcv_holds_c31)
theorem gcv_holds_named : Try.pinned.checked.prog.funcNamed Rows.fnExactGoodCurveRow.func = some 3 := by kernel_rfl
theorem gcv_holds_inst : Try.f3.isInstance Try.pinned.checked.prog Rows.fnExactGoodCurveRow.origin Rows.fnExactGoodCurveRow.targs := of_decide_eq_true (by kernel_rfl)
theorem gcv_holds_wrap : Try.f3.isWrapper Try.pinned.checked.prog Rows.fnExactGoodCurveRow.wrapper Rows.fnExactGoodCurveRow.mainSum := by unfold Func.isWrapper; first | (rw [if_pos (by decide +kernel)]; kernel_rfl) | (rw [if_neg (by decide +kernel)]; exact ⟨rfl, rfl⟩)
theorem gcv_holds : Rows.FnExactGoodCurveSaid :=
  OpenClaim.holds_of_wide 3 Try.f3 rfl rfl rfl rfl rfl rfl rfl ⟨rfl, rfl, rfl, rfl, rfl⟩ rfl rfl rfl rfl rfl gcv_holds_named Try.func3 gcv_holds_closed gcv_holds_inst gcv_holds_wrap
    (fun os started H enc _ => gcv_holds_lifted os started H enc)
#print axioms gcv_holds
end Go.Proofs.Ytikllcoekcglcaa

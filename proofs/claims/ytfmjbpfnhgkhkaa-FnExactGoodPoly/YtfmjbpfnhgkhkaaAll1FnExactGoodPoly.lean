/- The law FnExactGoodPoly returns true for every argument and leaves it as it was: the given statement FnExactGoodPolySaid. No condition. -/
import Derived.Test.YtfmjbpfnhgkhkaaPackP
import Derived.Test.YtfmjbpfnhgkhkaaIo
namespace Go.Proofs.Ytfmjbpfnhgkhkaa
open Go.RowKit
set_option linter.unusedVariables false
set_option maxRecDepth 100000
set_option linter.unusedSimpArgs false

theorem POwQ.lens {lo hi : Nat} {w : World} {G n c : Nat} {l : List (QV × QD)} (h : POwQ lo hi w G n c l) : ∀ p ∈ l, p.1.num.n ≤ maxLen ∧ p.1.den.n ≤ maxLen := fun p hp =>
  ⟨Nat.le_trans (h.ar p hp).head.ar.cap (h.ar p hp).head.ar.top, Nat.le_trans (h.ar p hp).tail.head.ar.cap (h.ar p hp).tail.head.ar.top⟩
set_option maxHeartbeats 2000000 in
theorem lawGoodP_walk (a : Option Addr) (n c : Nat) (l : List (QV × QD)) (w : World) (h : PSlQ w a l) (hn : l.length = n) (hm : n ≤ maxLen) (ml : ∀ p ∈ l, p.1.num.n ≤ maxLen ∧ p.1.den.n ≤ maxLen) :
    Calls Try.prog 10 #[.slice a n c] w fun e w' => e = .returned (.bool true) ∧ Below w.heap.size w w' := by
  have SZ := hide (fun w1 (k : PSlQ w1 a l) => szPQ a n c l 1048576 w1 k hn hm ml (by omega) (by omega))
  have HS := hide h
  have HN := hide hn
  clear h hn hm ml
  go_enter Try.func10, Try.ntmps10
  go_wp2_with fail
  refine (unhide SZ _ (unhide HS)).mono ?_
  rintro e w1 ⟨r, rfl, hb, hr⟩
  clear SZ
  have HB := hide hb
  clear hb
  by_cases hneg : r < 0
  · clear hr
    go_wp2
    go_ret
    exact ⟨rfl, unhide HB⟩
  · have hr' : r = 1048576 - (n : Int) - (lenPQ l : Int) := by
      rcases hr with e | e
      · exact absurd (show r < 0 by omega) hneg
      · exact e.2
    have TT := hide (fun w1 (k : PSlQ w1 a l) => toPQ a n c l w1 k (unhide HN) (by omega) (fun p hp => by have h1 := lenPQ_mem hp; have h2 : lenQ p = p.1.num.n + p.1.den.n := rfl; omega))
    clear hr hr'
    go_wp2_with fail
    refine (unhide TT _ ((unhide HS).later (unhide HB))).mono ?_
    rintro e w2 ⟨l2, rfl, hb, z2, d2, o2⟩
    replace HB := hide (below_on (unhide HB) hb)
    have A2 := hide o2.arg
    have D2 := hide d2
    clear hb z2 d2 o2
    go_wp2_with fail
    refine (GoodPS _ n n l2 _ (unhide A2)).mono ?_
    rintro e w3 ⟨rfl, hb⟩
    rw [unhide D2]
    replace HB := hide (below_on (unhide HB) hb)
    clear hb A2 D2
    go_wp2_with fail
    refine (unhide TT _ ((unhide HS).later (unhide HB))).mono ?_
    rintro e w4 ⟨l4, rfl, hb, z4, d4, o4⟩
    replace HB := hide (below_on (unhide HB) hb)
    have O4 := hide o4
    have D4 := hide d4
    clear hb z4 d4 o4
    go_wp2_with fail
    refine (GoodPI _ n n l4 _ (unhide O4).arg).mono ?_
    rintro e w5 ⟨rfl, hb⟩
    rw [unhide D4]
    replace HB := hide (below_on (unhide HB) hb)
    replace O4 := hide ((unhide O4).later hb)
    clear hb
    generalize gP (l.map Prod.snd) = g
    have HG : (g == g) = true := by simp
    go_wp2_with fail
    refine (unhide TT _ ((unhide HS).later (unhide HB))).mono ?_
    rintro e w6 ⟨l6, rfl, hb, z6, d6, o6⟩
    replace HB := hide (below_on (unhide HB) hb)
    replace O4 := hide ((unhide O4).later hb)
    have O6 := hide o6
    have D6 := hide d6
    clear hb z6 d6 o6 TT
    go_wp2_with fail
    refine (eqPQ _ _ n n n l4 l6 _ (unhide O4).arg.sl (unhide O6).arg.sl (unhide O4).len ((unhide D4).trans (unhide D6).symm) (Nat.le_trans (unhide O4).arg.cap (unhide O4).arg.top) (unhide O4).lens).mono ?_
    rintro e w7 ⟨rfl, hb⟩
    replace HB := hide (below_on (unhide HB) hb)
    clear hb
    go_wp2
    go_ret
    exact ⟨rfl, unhide HB⟩
end Go.Proofs.Ytfmjbpfnhgkhkaa
namespace Go.Proofs.Ytfmjbpfnhgkhkaa
open Go.ChangeShapes Go.WideShapes Go.ChangeAt Go.RowKit Go.Joins
set_option linter.unusedVariables false
set_option maxRecDepth 100000
set_option linter.unusedSimpArgs false

set_option maxRecDepth 100000 in
theorem goodP_holds_lifted (os : Os) (started : os.Started) (H : Type) (enc : TypeId × Value → H) :
    ReturnsInHanded {} Try.checked os 10 .any (Rows.fnExactGoodPolySpec.pre6 enc Try.prog Try.f10 Rows.fnExactGoodPolyRow.domain false) (Rows.fnExactGoodPolySpec.post enc Try.prog Try.f10 false true false false) := by
  refine returnsInHanded_of_change (C := Try.checked) own started (by kernel_rfl) Try.func10
    (ChangeSpec.witness6 (enc := enc) (C := Try.checked) false ⟨#[], #[.slice none 0 0], []⟩ 8 (by kernel_rfl) (by kernel_rfl) (by kernel_rfl) (by kernel_rfl)) ?_
  intro W base args ds gs before hval0 hW hcnd _
  have hval : ∀ (j : Nat) t v, Try.f10.params[j]? = some t → args[j]? = some v → Value.okWide Try.prog W .any base t v := hval0
  have hW' := hW
  obtain ⟨p, q, hA0, hV, rfl, hfz, hnd⟩ := hW
  have hA : DataW.TrodAll enc Try.prog W 0 (fun _ => true) true Try.f10.params.toList args.toList ds p := hA0
  rw [Try.params10] at hA hval
  obtain ⟨v0, vs0, d0, ds0, p0, q0, hargs, rfl, rfl, h0, r0⟩ := trodAll_cons hA
  obtain ⟨rfl, rfl, rfl⟩ := trodAll_nil r0
  obtain rfl : args = #[v0] := by cases args; simp_all
  obtain ⟨rfl, rfl⟩ := trodVars_none hV
  have lt0 : ∀ x ∈ p0, x.block < W.heap.size := by obtain ⟨m, hm⟩ := h0; exact DataW.trod_lt m _ _ _ hm
  obtain ⟨a0, n0, c0, l0, rfl, sl0, hn0, hm0, ml0⟩ := open_PQ (hval 0 68 v0 rfl rfl) h0
  clear hA0 hval0
  refine (lawGoodP_walk a0 n0 c0 l0 W sl0 hn0 hm0 ml0).mono fun e W' ⟨he, bel⟩ => ?_
  subst he
  exact ⟨_, rfl, _, _, _, [], _, [], hW', trodAll_mk1 (shut_bool Try.underlying4 _), (trodAll_cons_mk (Below.trod laidOut (by kernel_rfl) (of_decide_eq_true (by kernel_rfl)) h0 bel lt0) trodAll_mk0), rfl, bel.frame _, fun h => by cases h⟩

theorem goodP_holds_c0 : (Rows.fnExactGoodPolyRow.wf (OpenSpec.ofChange Rows.fnExactGoodPolySpec)) = true := by kernel_rfl
theorem goodP_holds_c1 : (laidOutB Try.pinned.checked.prog) = true := by kernel_rfl
theorem goodP_holds_c2 : (mapsRowed Try.pinned.checked.prog) = true := by kernel_rfl
theorem goodP_holds_c3 : (Try.f10.params.all (Try.pinned.checked.prog.readableRec ·)) = true := by kernel_rfl
theorem goodP_holds_c4 : (namedTie Try.pinned.checked.prog Rows.fnExactGoodPolyRow.named Rows.fnExactGoodPolySpec.vars) = true := by kernel_rfl
theorem goodP_holds_c5 : (Rows.fnExactGoodPolyRow.stops == []) = true := by kernel_rfl
theorem goodP_holds_c6 : (Try.pinned.checked.prog.stops == []) = true := by kernel_rfl
theorem goodP_holds_c7 : (Rows.fnExactGoodPolyRow.knobs == []) = true := by kernel_rfl
theorem goodP_holds_c8 : (Try.pinned.checked.prog.stopKnobs == []) = true := by kernel_rfl
theorem goodP_holds_c9 : (Rows.fnExactGoodPolyRow.inPlace == Try.pinned.checked.prog.inPlace 10) = true := by kernel_rfl
theorem goodP_holds_c10 : (Rows.fnExactGoodPolyRow.unfollowed == Try.pinned.checked.prog.unfollowed 10) = true := by kernel_rfl
theorem goodP_holds_c11 : (Rows.fnExactGoodPolyRow.recurses == Try.pinned.checked.prog.recurses 10) = true := by kernel_rfl
theorem goodP_holds_c12 : (Rows.fnExactGoodPolyRow.named == Try.pinned.checked.prog.varsNamed 10) = true := by kernel_rfl
theorem goodP_holds_c13 : (Rows.fnExactGoodPolyRow.maps == (Try.f10.params.toList ++ Rows.fnExactGoodPolySpec.plain.varTypes Try.pinned.checked.prog).any (Try.pinned.checked.prog.mapsRec ·)) = true := by kernel_rfl
theorem goodP_holds_c14 : (Rows.fnExactGoodPolyRow.ifaces == (Try.f10.params.toList ++ Rows.fnExactGoodPolySpec.plain.varTypes Try.pinned.checked.prog).any (Try.pinned.checked.prog.ifacesRec ·)) = true := by kernel_rfl
theorem goodP_holds_c15 : (Rows.fnExactGoodPolyRow.mapsOut == Try.pinned.checked.prog.mapsAmong Try.f10.resultTypes.toList) = true := by kernel_rfl
theorem goodP_holds_c16 : (Rows.fnExactGoodPolyRow.loops == (Try.f10.params.toList ++ Rows.fnExactGoodPolySpec.plain.varTypes Try.pinned.checked.prog).any (Try.pinned.checked.prog.loopsFrom ·)) = true := by kernel_rfl
theorem goodP_holds_c17 : (Rows.fnExactGoodPolyRow.wideKeys == (Try.f10.params.toList ++ Rows.fnExactGoodPolySpec.plain.varTypes Try.pinned.checked.prog ++ Try.f10.resultTypes.toList).any (Try.pinned.checked.prog.wideKeysFrom ·)) = true := by kernel_rfl
theorem goodP_holds_c18 : (Rows.fnExactGoodPolySpec.vars.all (Try.pinned.checked.prog.varReadable ·)) = true := by kernel_rfl
theorem goodP_holds_c19 : (Try.f10.resultTypes.all (fun t => Try.pinned.checked.prog.readableRec t && decide (t < Try.pinned.checked.prog.types.size))) = true := by kernel_rfl
theorem goodP_holds_c20 : (Rows.fnExactGoodPolyRow.ifacesOut == Try.f10.resultTypes.toList.any (Try.pinned.checked.prog.ifacesRec ·)) = true := by kernel_rfl
theorem goodP_holds_c21 : (Rows.fnExactGoodPolyRow.loopsOut == Try.f10.resultTypes.toList.any (Try.pinned.checked.prog.loopsFrom ·)) = true := by kernel_rfl
theorem goodP_holds_c22 : (Rows.fnExactGoodPolyRow.plainKeys == Try.pinned.checked.prog.plainKeys) = true := by kernel_rfl
theorem goodP_holds_c23 : (Rows.fnExactGoodPolyRow.shortTexts.isNone) = true := by kernel_rfl
theorem goodP_holds_c24 : (Try.pinned.checked.prog.stopsHeard) = true := by kernel_rfl
theorem goodP_holds_c25 : (Try.pinned.checked.prog.mayEnter) = true := io_enter
theorem goodP_holds_c26 : (Rows.fnExactGoodPolyRow.lifted == Try.pinned.checked.prog.liftsFinal) = true := by rw [io_lifts]; kernel_rfl
theorem goodP_holds_c27 : (Try.pinned.checked.prog.make == some Rows.fnExactGoodPolyRow.make) = true := by rw [io_make]; kernel_rfl
theorem goodP_holds_c28 : (Rows.fnExactGoodPolyRow.kinds == (if Rows.fnExactGoodPolyRow.domain.isEmpty then [] else Try.f10.params.toList.map fun t => match Try.pinned.checked.prog.underlying t with | some (.int k) => some k | _ => none)) = true := by kernel_rfl
theorem goodP_holds_c29 : (Rows.fnExactGoodPolyRow.pinned == Rows.fnExactGoodPolyRow.pinnedBy) = true := by kernel_rfl
theorem goodP_holds_c30 : (Rows.fnExactGoodPolyRow.veiled == (Try.f10.params.toList ++ Rows.fnExactGoodPolySpec.plain.varTypes Try.pinned.checked.prog ++ Try.f10.resultTypes.toList).any (Try.pinned.checked.prog.veiledRec ·)) = true := by kernel_rfl
theorem goodP_holds_c31 : (Rows.fnExactGoodPolyRow.veiledFits Try.pinned.checked.prog Try.f10.params.toList (Try.f10.params.toList ++ Rows.fnExactGoodPolySpec.plain.varTypes Try.pinned.checked.prog ++ Try.f10.resultTypes.toList)) = true := by kernel_rfl
theorem goodP_holds_and {a b : Bool} (h : a = true) (k : b = true) : (a && b) = true := by rw [h, k]; rfl
theorem goodP_holds_closed : joinedFacts Try.pinned.checked.prog 10 Try.f10 Rows.fnExactGoodPolySpec Rows.fnExactGoodPolyRow = true := (goodP_holds_and (goodP_holds_and (goodP_holds_and (goodP_holds_and (goodP_holds_and (goodP_holds_and (goodP_holds_and (goodP_holds_and (goodP_holds_and (goodP_holds_and (goodP_holds_and (goodP_holds_and (goodP_holds_and (goodP_holds_and (goodP_holds_and (goodP_holds_and (goodP_holds_and (goodP_holds_and (goodP_holds_and (goodP_holds_and (goodP_holds_and (goodP_holds_and (goodP_holds_and (goodP_holds_and (goodP_holds_and (goodP_holds_and (goodP_holds_and (goodP_holds_and (goodP_holds_and (goodP_holds_and (goodP_holds_and goodP_holds_c0 goodP_holds_c1) goodP_holds_c2) goodP_holds_c3) goodP_holds_c4) goodP_holds_c5) goodP_holds_c6) goodP_holds_c7) goodP_holds_c8) goodP_holds_c9) goodP_holds_c10) goodP_holds_c11) goodP_holds_c12) goodP_holds_c13) goodP_holds_c14) goodP_holds_c15) goodP_holds_c16) goodP_holds_c17) goodP_holds_c18) goodP_holds_c19) goodP_holds_c20) goodP_holds_c21) goodP_holds_c22) goodP_holds_c23) goodP_holds_c24) goodP_holds_c25) goodP_holds_c26) goodP_holds_c27) goodP_holds_c28) goodP_holds_c29) goodP_holds_c30) goodP_holds_c31)
theorem goodP_holds_named : Try.pinned.checked.prog.funcNamed Rows.fnExactGoodPolyRow.func = some 10 := by kernel_rfl
theorem goodP_holds_inst : Try.f10.isInstance Try.pinned.checked.prog Rows.fnExactGoodPolyRow.origin Rows.fnExactGoodPolyRow.targs := of_decide_eq_true (by kernel_rfl)
theorem goodP_holds_wrap : Try.f10.isWrapper Try.pinned.checked.prog Rows.fnExactGoodPolyRow.wrapper Rows.fnExactGoodPolyRow.mainSum := by unfold Func.isWrapper; first | (rw [if_pos (by decide +kernel)]; kernel_rfl) | (rw [if_neg (by decide +kernel)]; exact ⟨rfl, rfl⟩)
theorem goodP_holds : Rows.FnExactGoodPolySaid :=
  OpenClaim.holds_of_wide 10 Try.f10 rfl rfl rfl rfl rfl rfl rfl ⟨rfl, rfl, rfl, rfl, rfl⟩ rfl rfl rfl rfl rfl goodP_holds_named Try.func10 goodP_holds_closed goodP_holds_inst goodP_holds_wrap
    (fun os started H enc _ => goodP_holds_lifted os started H enc)
#print axioms goodP_holds
end Go.Proofs.Ytfmjbpfnhgkhkaa

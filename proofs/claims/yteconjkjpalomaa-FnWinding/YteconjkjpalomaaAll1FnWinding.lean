/- The law FnWinding returns true for every argument and leaves it as it was: the given statement FnWindingSaid. No condition. -/
import Derived.Test.YteconjkjpalomaaDrw9b
import Derived.Test.YteconjkjpalomaaIm9
import Derived.Test.YteconjkjpalomaaPkW0
import Derived.Test.YteconjkjpalomaaTm8
import Derived.Deep.Cut
namespace Go.Proofs.Yteconjkjpalomaa
open Go.RowKit
set_option linter.unusedVariables false
set_option maxRecDepth 100000
set_option linter.unusedSimpArgs false

set_option maxHeartbeats 16000000 in
theorem lawWinding_walk (a : Option Addr) (n c : Nat) (b : Option Addr) (m d : Nat) (w : World) (h : ArY w a n) (h' : ArY w b m) :
    Calls Try.prog 3 #[.slice a n c, .slice b m d] w fun e w' => e = .returned (.bool true) ∧ Below w.heap.size w w' := by
  by_cases big : 1048576 < wrap64 ((n : Int) + (m : Int))
  · have d1 : decide (1048576 < wrap64 ((n : Int) + (m : Int))) = true := decide_eq_true big
    go_enter Try.func3, Try.ntmps3
    go_wp2_with fail
    go_ret
    exact ⟨rfl, Below.refl _ _⟩
  have d1 : decide (1048576 < wrap64 ((n : Int) + (m : Int))) = false := decide_eq_false big
  have Y1 := hide h
  have Y2 := hide h'
  have BW : Hid (Below w.heap.size w w) := hide (Below.refl _ _)
  clear h h'
  go_enter Try.func3, Try.ntmps3
  go_wp2_with fail
  refine (drawWA a n c _ (unhide Y1)).mono ?_
  rintro e w1 ⟨a0, n0, c0, l, p, rfl, ar, nl, hn, np, hb⟩
  replace Y2 := hide ((unhide Y2).later hb)
  replace BW := hide (below_on (unhide BW) hb)
  clear hb
  clear Y1 d1 big nl np
  have LN0 := hide ar.len
  have AR := hide (ar)
  clear ar
  have al : Below w1.heap.size w1 (w1.alloc (.cells #[.int .i64 p.1, .int .i64 p.2] 25)) := ((Below.refl _ _).alloc (Nat.le_refl _) _)
  replace Y2 := hide ((unhide Y2).later al)
  replace AR := hide ((unhide AR).later al)
  replace BW := hide (below_on (unhide BW) al)
  clear al
  have Kp : Hid (BxP (w1.alloc (.cells #[.int .i64 p.1, .int .i64 p.2] 25)) (w1.heap.size) p.1 p.2) := hide ((BxP.new (w := w1) (x := p.1) (y := p.2) (t := 25)))
  have C1 := hide (fun w (k : ArP w a0 n0 c0 l) => WindingAtI a0 n0 c0 l p w k (by omega))
  have C2 := hide (fun w (k : ArP w a0 n0 c0 l) => WindingAtS a0 n0 c0 l p w k (by omega))
  have C3 := hide (fun w (k : ArP w a0 n0 c0 l) => CrossingsAtI a0 n0 c0 l p w k (by omega))
  have C4 := hide (fun w (k : ArP w a0 n0 c0 l) => CrossingsAtS a0 n0 c0 l p w k (by omega))
  have C5 := hide (fun w (k : ArP w a0 n0 c0 l) => OnWayI a0 n0 c0 l p w k (by omega))
  have C6 := hide (fun w (k : ArP w a0 n0 c0 l) => OnWayS a0 n0 c0 l p w k (by omega))
  have C7 := hide (fun w (k : ArP w a0 n0 c0 l) => TurnAllI a0 n0 c0 l w k (by omega))
  have C8 := hide (fun a' n' c' w (k : ArP w a' n' c' (tvV l)) (h1 : n' ≤ 1048576) => WindingAtI a' n' c' (tvV l) p w k h1)
  have C9 := hide (fun w (k : ArP w a0 n0 c0 l) => IsSimpleI a0 n0 c0 l w k (by omega))
  have CA := hide (fun w (k : ArP w a0 n0 c0 l) => AreaTwiceI_ a0 n0 c0 l w k (by omega))
  have CF := hide (wd_all l p)
  have CO := hide (off_parts l p)
  have TV := hide (@tvV_len l)
  have WL := hide (@way_parts l)
  generalize offB (tvV l) p = t2 at *
  generalize wnV (tvV l) p = w2v at *
  generalize ooV l p = ov at *
  generalize gWP l p = og at *
  generalize wnV l p = wv at *
  generalize crV l p = cv at *
  generalize offB l p = t at *
  generalize wayB l = wy at *
  generalize isV l = sv at *
  generalize arS l l.length = av at *
  have x1 : (t != t) = false := by simp
  have x2 : (wv != wv) = false := by simp
  have x3 : (cv != cv) = false := by simp
  have x4 : (og != og) = false := by simp
  have x5 : (ov != ov) = false := by simp
  go_upto_region 4 with fail
  generalize (w1.alloc (.cells #[.int .i64 p.1, .int .i64 p.2] 25)) = w2 at *
  have Kp_0 := (unhide Kp).c0
  have Kp_1 := (unhide Kp).c1
  go_wp2_with fail
  refine (unhide C1 _ (unhide AR)).mono ?_
  rintro e w3 ⟨rfl, hb⟩
  clear Kp_0 Kp_1
  replace Kp := hide ((unhide Kp).later hb)
  replace Y2 := hide ((unhide Y2).later hb)
  replace AR := hide ((unhide AR).later hb)
  replace BW := hide (below_on (unhide BW) hb)
  clear hb
  have Kp_0 := (unhide Kp).c0
  have Kp_1 := (unhide Kp).c1
  go_wp2_with fail
  refine (unhide C2 _ (unhide AR)).mono ?_
  rintro e w4 ⟨rfl, hb⟩
  clear Kp_0 Kp_1
  replace Kp := hide ((unhide Kp).later hb)
  replace Y2 := hide ((unhide Y2).later hb)
  replace AR := hide ((unhide AR).later hb)
  replace BW := hide (below_on (unhide BW) hb)
  clear hb
  have Kp_0 := (unhide Kp).c0
  have Kp_1 := (unhide Kp).c1
  go_wp2_with fail
  refine (unhide C3 _ (unhide AR)).mono ?_
  rintro e w5 ⟨rfl, hb⟩
  clear Kp_0 Kp_1
  replace Kp := hide ((unhide Kp).later hb)
  replace Y2 := hide ((unhide Y2).later hb)
  replace AR := hide ((unhide AR).later hb)
  replace BW := hide (below_on (unhide BW) hb)
  clear hb
  have Kp_0 := (unhide Kp).c0
  have Kp_1 := (unhide Kp).c1
  go_wp2_with fail
  refine (unhide C4 _ (unhide AR)).mono ?_
  rintro e w6 ⟨rfl, hb⟩
  clear Kp_0 Kp_1
  replace Kp := hide ((unhide Kp).later hb)
  replace Y2 := hide ((unhide Y2).later hb)
  replace AR := hide ((unhide AR).later hb)
  replace BW := hide (below_on (unhide BW) hb)
  clear hb
  have Kp_0 := (unhide Kp).c0
  have Kp_1 := (unhide Kp).c1
  go_wp2_with fail
  refine (unhide C5 _ (unhide AR)).mono ?_
  rintro e w7 ⟨rfl, hb⟩
  clear Kp_0 Kp_1
  replace Kp := hide ((unhide Kp).later hb)
  replace Y2 := hide ((unhide Y2).later hb)
  replace AR := hide ((unhide AR).later hb)
  replace BW := hide (below_on (unhide BW) hb)
  clear hb
  have Kp_0 := (unhide Kp).c0
  have Kp_1 := (unhide Kp).c1
  go_wp2_with fail
  refine (unhide C6 _ (unhide AR)).mono ?_
  rintro e w8 ⟨rfl, hb⟩
  clear Kp_0 Kp_1
  replace Kp := hide ((unhide Kp).later hb)
  replace Y2 := hide ((unhide Y2).later hb)
  replace AR := hide ((unhide AR).later hb)
  replace BW := hide (below_on (unhide BW) hb)
  clear hb
  clear C1 C2 C3 C4 C5 C6
  go_upto_region 10 with fail
  have FB0 : Hid (Below w8.heap.size w8 w8) := hide (Below.refl _ _)
  go_cut [117] (fun v wx => v = .bool false ∧ Hid (Below w8.heap.size w8 wx))
  case first => as_aux_lemma =>
    obtain ⟨e1, e2⟩ := unhide CO
    clear CO CF C7 C8 C9 CA
    cases og
    · obtain rfl := e2 rfl
      subst e1
      clear e2
      go_wp2_with fail
      go_meet
      exact ⟨rfl, FB0⟩
    · cases ov
      · subst e1
        clear e2
        go_wp2_with fail
        go_meet
        exact ⟨rfl, FB0⟩
      · subst e1
        clear e2
        go_wp2_with fail
        go_meet
        exact ⟨rfl, FB0⟩
  case rest => as_aux_lemma =>
    obtain ⟨rfl, hcut⟩ := hcut
    obtain ⟨w9, hwc⟩ : ∃ x, x = wc := ⟨_, rfl⟩
    subst hwc
    have hb := unhide hcut
    clear hcut FB0
    replace Kp := hide ((unhide Kp).later hb)
    replace Y2 := hide ((unhide Y2).later hb)
    replace AR := hide ((unhide AR).later hb)
    replace BW := hide (below_on (unhide BW) hb)
    clear hb
    clear CO x1 x2 x3 x4 x5
    go_upto_if 118 with fail
    have FB1 : Hid (Below w9.heap.size w9 w9) := hide (Below.refl _ _)
    go_cut [] (fun wx => Hid (Below w9.heap.size w9 wx))
    case first => as_aux_lemma =>
      cases t
      · clear CF C7 C8 C9 CA
        go_wp2_with fail
        go_meet
        exact FB1
      · skip
        obtain ⟨rfl, rfl, rfl, ⟨b1, b2⟩, ⟨mm, em⟩, ⟨b3, b4⟩, ONE⟩ := unhide CF rfl
        simp only [if_true] at CA
        have l3 := (unhide WL rfl).1
        have tl := unhide TV rfl
        have ln0 := unhide LN0
        have HO := hide ONE
        clear CF WL TV ONE
        go_wp2_with fail
        refine (unhide C7 _ (unhide AR)).mono ?_
        rintro e w10 ⟨a1, n1, c1, rfl, hb, rt, hn1⟩
        replace Kp := hide ((unhide Kp).later hb)
        replace Y2 := hide ((unhide Y2).later hb)
        replace AR := hide ((unhide AR).later hb)
        replace BW := hide (below_on (unhide BW) hb)
        replace FB1 := hide (below_on (unhide FB1) hb)
        clear hb
        have n1p : 0 < n1 := by have h := rt.len; omega
        have AT := hide (rt_ar rt n1p)
        clear rt l3 tl ln0
        have Kp_0 := (unhide Kp).c0
        have Kp_1 := (unhide Kp).c1
        go_wp2_with fail
        refine (unhide C8 _ _ _ _ (unhide AT) hn1).mono ?_
        rintro e w11 ⟨rfl, hb⟩
        clear Kp_0 Kp_1
        replace Kp := hide ((unhide Kp).later hb)
        replace Y2 := hide ((unhide Y2).later hb)
        replace AR := hide ((unhide AR).later hb)
        replace AT := hide ((unhide AT).later hb)
        replace BW := hide (below_on (unhide BW) hb)
        replace FB1 := hide (below_on (unhide FB1) hb)
        clear hb
        clear AT Kp
        clear C7 C8 n1p
        have iv1 : IntKind.i64.wrap (-wv) = -wv := by rw [IntKind.wrap_i64]; omega
        have iv2 : IntKind.i64.wrap (cv - wv) = cv - wv := by rw [IntKind.wrap_i64]; omega
        have iv3 : (cv - wv).tmod 2 = 0 := by rw [em]; exact Int.mul_tmod_right 2 mm
        have iv4 : (-wv != -wv) = false := by simp
        have iv5 : IntKind.i64.wrap 0 = 0 := by decide
        have HM := hide em
        clear em
        go_wp2_with fail
        refine (unhide C9 _ (unhide AR)).mono ?_
        rintro e w12 ⟨rfl, hb⟩
        replace Y2 := hide ((unhide Y2).later hb)
        replace AR := hide ((unhide AR).later hb)
        replace BW := hide (below_on (unhide BW) hb)
        replace FB1 := hide (below_on (unhide FB1) hb)
        clear hb
        go_wp2_with fail
        refine (unhide CA _ (unhide AR)).mono ?_
        rintro e w13 ⟨rfl, hb⟩
        replace Y2 := hide ((unhide Y2).later hb)
        replace AR := hide ((unhide AR).later hb)
        replace BW := hide (below_on (unhide BW) hb)
        replace FB1 := hide (below_on (unhide FB1) hb)
        clear hb
        clear AR
        clear C9 CA iv1 iv2 iv3 iv4 iv5 HM b3 b4
        cases sv
        · clear HO
          go_wp2_with fail
          go_meet
          exact FB1
        · obtain ⟨s1, h1⟩ | ⟨s1, h1⟩ := unhide HO rfl
          all_goals
            clear HO
          · obtain rfl | rfl := h1
            · have z1 : decide (av < 0) = false := decide_eq_false (by omega)
              have z2 : decide (0 < av) = true := decide_eq_true s1
              clear b1 b2
              go_wp2_with fail
              go_meet
              exact FB1
            · have z1 : decide (av < 0) = false := decide_eq_false (by omega)
              have z2 : decide (0 < av) = true := decide_eq_true s1
              clear b1 b2
              go_wp2_with fail
              go_meet
              exact FB1
          · obtain rfl | rfl := h1
            · have z1 : decide (av < 0) = true := decide_eq_true s1
              have z2 : decide (0 < av) = false := decide_eq_false (by omega)
              clear b1 b2
              go_wp2_with fail
              go_meet
              exact FB1
            · have z1 : decide (av < 0) = true := decide_eq_true s1
              have z2 : decide (0 < av) = false := decide_eq_false (by omega)
              clear b1 b2
              go_wp2_with fail
              go_meet
              exact FB1
    case rest => as_aux_lemma =>
      obtain hcut := hcut
      obtain ⟨w14, hwc⟩ : ∃ x, x = wc := ⟨_, rfl⟩
      subst hwc
      have hb := unhide hcut
      clear hcut FB1
      replace Kp := hide ((unhide Kp).later hb)
      replace Y2 := hide ((unhide Y2).later hb)
      replace AR := hide ((unhide AR).later hb)
      replace BW := hide (below_on (unhide BW) hb)
      clear hb
      clear AR Kp
      clear CF C7 C8 C9 CA TV WL LN0 hn
      go_wp2_with fail
      refine (drawIn b m d _ (unhide Y2)).mono ?_
      rintro e w15 ⟨a6, n6, c6, l6, q, ev, rfl, ar6, nl6, hn6, nq, hb⟩
      replace Y2 := hide ((unhide Y2).later hb)
      replace BW := hide (below_on (unhide BW) hb)
      clear hb
      clear Y2
      have AR := hide (ar6)
      clear ar6 nl6 nq
      have al : Below w15.heap.size w15 (w15.alloc (.cells #[.int .i64 q.1, .int .i64 q.2] 25)) := ((Below.refl _ _).alloc (Nat.le_refl _) _)
      replace AR := hide ((unhide AR).later al)
      replace BW := hide (below_on (unhide BW) al)
      clear al
      have Kq : Hid (BxP (w15.alloc (.cells #[.int .i64 q.1, .int .i64 q.2] 25)) (w15.heap.size) q.1 q.2) := hide ((BxP.new (w := w15) (x := q.1) (y := q.2) (t := 25)))
      have C1 := hide (fun w (k : ArP w a6 n6 c6 l6) => InsideI a6 n6 c6 l6 q ev w k (by omega))
      have C2 := hide (fun w (k : ArP w a6 n6 c6 l6) => InsideS a6 n6 c6 l6 q ev w k (by omega))
      generalize inV l6 q ev = iv at *
      generalize offB l6 q = t at *
      have q1 : (t == t) = true := by simp
      have q2 : (iv == iv) = true := by simp
      go_upto_region 22 with fail
      generalize (w15.alloc (.cells #[.int .i64 q.1, .int .i64 q.2] 25)) = w16 at *
      have Kq_0 := (unhide Kq).c0
      have Kq_1 := (unhide Kq).c1
      go_wp2_with fail
      refine (unhide C1 _ (unhide AR)).mono ?_
      rintro e w17 ⟨rfl, hb⟩
      clear Kq_0 Kq_1
      replace Kq := hide ((unhide Kq).later hb)
      replace AR := hide ((unhide AR).later hb)
      replace BW := hide (below_on (unhide BW) hb)
      clear hb
      have Kq_0 := (unhide Kq).c0
      have Kq_1 := (unhide Kq).c1
      go_wp2_with fail
      refine (unhide C2 _ (unhide AR)).mono ?_
      rintro e w18 ⟨rfl, hb⟩
      clear Kq_0 Kq_1
      replace Kq := hide ((unhide Kq).later hb)
      replace AR := hide ((unhide AR).later hb)
      replace BW := hide (below_on (unhide BW) hb)
      clear hb
      go_wp2_with fail
      go_ret
      exact ⟨rfl, unhide BW⟩
end Go.Proofs.Yteconjkjpalomaa
namespace Go.Proofs.Yteconjkjpalomaa
open Go.ChangeShapes Go.WideShapes Go.ChangeAt Go.RowKit Go.Joins
set_option linter.unusedVariables false
set_option maxRecDepth 100000
set_option linter.unusedSimpArgs false

set_option maxRecDepth 100000 in
theorem winding_holds_lifted (os : Os) (started : os.Started) (H : Type) (enc : TypeId × Value → H) :
    ReturnsInHanded {} Try.checked os 3 .any (Rows.fnWindingSpec.pre6 enc Try.prog Try.f3 Rows.fnWindingRow.domain false) (Rows.fnWindingSpec.post enc Try.prog Try.f3 false true false false) := by
  refine returnsInHanded_of_change (C := Try.checked) own started (by kernel_rfl) Try.func3
    (ChangeSpec.witness6 (enc := enc) (C := Try.checked) false ⟨#[], #[.slice none 0 0, .slice none 0 0], []⟩ 8 (by kernel_rfl) (by kernel_rfl) (by kernel_rfl) (by kernel_rfl)) ?_
  intro W base args ds gs before hval0 hW hcnd _
  have hval : ∀ (j : Nat) t v, Try.f3.params[j]? = some t → args[j]? = some v → Value.okWide Try.prog W .any base t v := hval0
  have hW' := hW
  obtain ⟨p, q, hA0, hV, rfl, hfz, hnd⟩ := hW
  have hA : DataW.TrodAll enc Try.prog W 0 (fun _ => true) true Try.f3.params.toList args.toList ds p := hA0
  rw [Try.params3] at hA hval
  obtain ⟨v0, vs0, d0, ds0, p0, q0, hargs, rfl, rfl, h0, r0⟩ := trodAll_cons hA
  obtain ⟨v1, vs1, d1, ds1, p1, q1, rfl, rfl, rfl, h1, r1⟩ := trodAll_cons r0
  obtain ⟨rfl, rfl, rfl⟩ := trodAll_nil r1
  obtain rfl : args = #[v0, v1] := by cases args; simp_all
  obtain ⟨rfl, rfl⟩ := trodVars_none hV
  have lt0 : ∀ x ∈ p0, x.block < W.heap.size := by obtain ⟨m, hm⟩ := h0; exact DataW.trod_lt m _ _ _ hm
  obtain ⟨a0, n0, c0, rfl, y0⟩ := open_Y (hval 0 22 v0 rfl rfl) h0
  have lt1 : ∀ x ∈ p1, x.block < W.heap.size := by obtain ⟨m, hm⟩ := h1; exact DataW.trod_lt m _ _ _ hm
  obtain ⟨a1, n1, c1, rfl, y1⟩ := open_Y (hval 1 22 v1 rfl rfl) h1
  clear hA0 hval0
  refine (lawWinding_walk a0 n0 c0 a1 n1 c1 W y0 y1).mono fun e W' ⟨he, bel⟩ => ?_
  subst he
  exact ⟨_, rfl, _, _, _, [], _, [], hW', trodAll_mk1 (shut_bool Try.underlying4 _), (trodAll_cons_mk (Below.trod laidOut (by kernel_rfl) (of_decide_eq_true (by kernel_rfl)) h0 bel lt0) (trodAll_cons_mk (Below.trod laidOut (by kernel_rfl) (of_decide_eq_true (by kernel_rfl)) h1 bel lt1) trodAll_mk0)), rfl, bel.frame _, fun h => by cases h⟩

theorem winding_holds_c0 : (Rows.fnWindingRow.wf (OpenSpec.ofChange Rows.fnWindingSpec)) = true := by kernel_rfl
theorem winding_holds_c1 : (laidOutB Try.pinned.checked.prog) = true := by kernel_rfl
theorem winding_holds_c2 : (mapsRowed Try.pinned.checked.prog) = true := by kernel_rfl
theorem winding_holds_c3 : (Try.f3.params.all (Try.pinned.checked.prog.readableRec ·)) = true := by kernel_rfl
theorem winding_holds_c4 : (namedTie Try.pinned.checked.prog Rows.fnWindingRow.named Rows.fnWindingSpec.vars) = true := by kernel_rfl
theorem winding_holds_c5 : (Rows.fnWindingRow.stops == []) = true := by kernel_rfl
theorem winding_holds_c6 : (Try.pinned.checked.prog.stops == []) = true := by kernel_rfl
theorem winding_holds_c7 : (Rows.fnWindingRow.knobs == []) = true := by kernel_rfl
theorem winding_holds_c8 : (Try.pinned.checked.prog.stopKnobs == []) = true := by kernel_rfl
theorem winding_holds_c9 : (Rows.fnWindingRow.inPlace == Try.pinned.checked.prog.inPlace 3) = true := by kernel_rfl
theorem winding_holds_c10 : (Rows.fnWindingRow.unfollowed == Try.pinned.checked.prog.unfollowed 3) = true := by kernel_rfl
theorem winding_holds_c11 : (Rows.fnWindingRow.recurses == Try.pinned.checked.prog.recurses 3) = true := by kernel_rfl
theorem winding_holds_c12 : (Rows.fnWindingRow.named == Try.pinned.checked.prog.varsNamed 3) = true := by kernel_rfl
theorem winding_holds_c13 : (Rows.fnWindingRow.maps == (Try.f3.params.toList ++ Rows.fnWindingSpec.plain.varTypes Try.pinned.checked.prog).any (Try.pinned.checked.prog.mapsRec ·)) = true := by kernel_rfl
theorem winding_holds_c14 : (Rows.fnWindingRow.ifaces == (Try.f3.params.toList ++ Rows.fnWindingSpec.plain.varTypes Try.pinned.checked.prog).any (Try.pinned.checked.prog.ifacesRec ·)) = true := by kernel_rfl
theorem winding_holds_c15 : (Rows.fnWindingRow.mapsOut == Try.pinned.checked.prog.mapsAmong Try.f3.resultTypes.toList) = true := by kernel_rfl
theorem winding_holds_c16 : (Rows.fnWindingRow.loops == (Try.f3.params.toList ++ Rows.fnWindingSpec.plain.varTypes Try.pinned.checked.prog).any (Try.pinned.checked.prog.loopsFrom ·)) = true := by kernel_rfl
theorem winding_holds_c17 : (Rows.fnWindingRow.wideKeys == (Try.f3.params.toList ++ Rows.fnWindingSpec.plain.varTypes Try.pinned.checked.prog ++ Try.f3.resultTypes.toList).any (Try.pinned.checked.prog.wideKeysFrom ·)) = true := by kernel_rfl
theorem winding_holds_c18 : (Rows.fnWindingSpec.vars.all (Try.pinned.checked.prog.varReadable ·)) = true := by kernel_rfl
theorem winding_holds_c19 : (Try.f3.resultTypes.all (fun t => Try.pinned.checked.prog.readableRec t && decide (t < Try.pinned.checked.prog.types.size))) = true := by kernel_rfl
theorem winding_holds_c20 : (Rows.fnWindingRow.ifacesOut == Try.f3.resultTypes.toList.any (Try.pinned.checked.prog.ifacesRec ·)) = true := by kernel_rfl
theorem winding_holds_c21 : (Rows.fnWindingRow.loopsOut == Try.f3.resultTypes.toList.any (Try.pinned.checked.prog.loopsFrom ·)) = true := by kernel_rfl
theorem winding_holds_c22 : (Rows.fnWindingRow.plainKeys == Try.pinned.checked.prog.plainKeys) = true := by kernel_rfl
theorem winding_holds_c23 : (Rows.fnWindingRow.shortTexts.isNone) = true := by kernel_rfl
theorem winding_holds_c24 : (Try.pinned.checked.prog.stopsHeard) = true := by kernel_rfl
theorem winding_holds_c25 : (Try.pinned.checked.prog.mayEnter) = true := io_enter
theorem winding_holds_c26 : (Rows.fnWindingRow.lifted == Try.pinned.checked.prog.liftsFinal) = true := by rw [io_lifts]; kernel_rfl
theorem winding_holds_c27 : (Try.pinned.checked.prog.make == some Rows.fnWindingRow.make) = true := by rw [io_make]; kernel_rfl
theorem winding_holds_c28 : (Rows.fnWindingRow.kinds == (if Rows.fnWindingRow.domain.isEmpty then [] else Try.f3.params.toList.map fun t => match Try.pinned.checked.prog.underlying t with | some (.int k) => some k | _ => none)) = true := by kernel_rfl
theorem winding_holds_c29 : (Rows.fnWindingRow.pinned == Rows.fnWindingRow.pinnedBy) = true := by kernel_rfl
theorem winding_holds_c30 : (Rows.fnWindingRow.veiled == (Try.f3.params.toList ++ Rows.fnWindingSpec.plain.varTypes Try.pinned.checked.prog ++ Try.f3.resultTypes.toList).any (Try.pinned.checked.prog.veiledRec ·)) = true := by kernel_rfl
theorem winding_holds_c31 : (Rows.fnWindingRow.veiledFits Try.pinned.checked.prog Try.f3.params.toList (Try.f3.params.toList ++ Rows.fnWindingSpec.plain.varTypes Try.pinned.checked.prog ++ Try.f3.resultTypes.toList)) = true := by kernel_rfl
theorem winding_holds_and {a b : Bool} (h : a = true) (k : b = true) : (a && b) = true := by rw [h, k]; rfl
theorem winding_holds_closed : joinedFacts Try.pinned.checked.prog 3 Try.f3 Rows.fnWindingSpec Rows.fnWindingRow = true := (winding_holds_and (winding_holds_and (winding_holds_and (winding_holds_and (winding_holds_and (winding_holds_and (winding_holds_and (winding_holds_and (winding_holds_and (winding_holds_and (winding_holds_and (winding_holds_and (winding_holds_and (winding_holds_and (winding_holds_and (winding_holds_and (winding_holds_and (winding_holds_and (winding_holds_and (winding_holds_and (winding_holds_and (winding_holds_and (winding_holds_and (winding_holds_and (winding_holds_and (winding_holds_and (winding_holds_and (winding_holds_and (winding_holds_and (winding_holds_and (winding_holds_and winding_holds_c0 winding_holds_c1) winding_holds_c2) winding_holds_c3) winding_holds_c4) winding_holds_c5) winding_holds_c6) winding_holds_c7) winding_holds_c8) winding_holds_c9) winding_holds_c10) winding_holds_c11) winding_holds_c12) winding_holds_c13) winding_holds_c14) winding_holds_c15) winding_holds_c16) winding_holds_c17) winding_holds_c18) winding_holds_c19) winding_holds_c20) winding_holds_c21) winding_holds_c22) winding_holds_c23) winding_holds_c24) winding_holds_c25) winding_holds_c26) winding_holds_c27) winding_holds_c28) winding_holds_c29) winding_holds_c30) winding_holds_c31)
theorem winding_holds_named : Try.pinned.checked.prog.funcNamed Rows.fnWindingRow.func = some 3 := by kernel_rfl
theorem winding_holds_inst : Try.f3.isInstance Try.pinned.checked.prog Rows.fnWindingRow.origin Rows.fnWindingRow.targs := of_decide_eq_true (by kernel_rfl)
theorem winding_holds_wrap : Try.f3.isWrapper Try.pinned.checked.prog Rows.fnWindingRow.wrapper Rows.fnWindingRow.mainSum := by unfold Func.isWrapper; first | (rw [if_pos (by decide +kernel)]; kernel_rfl) | (rw [if_neg (by decide +kernel)]; exact ⟨rfl, rfl⟩)
theorem winding_holds : Rows.FnWindingSaid :=
  OpenClaim.holds_of_wide 3 Try.f3 rfl rfl rfl rfl rfl rfl rfl ⟨rfl, rfl, rfl, rfl, rfl⟩ rfl rfl rfl rfl rfl winding_holds_named Try.func3 winding_holds_closed winding_holds_inst winding_holds_wrap
    (fun os started H enc _ => winding_holds_lifted os started H enc)
#print axioms winding_holds
end Go.Proofs.Yteconjkjpalomaa

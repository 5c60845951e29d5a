/- The walk through the law FnWays: it returns true. No condition beyond those typed. Written by mkways.py. -/
import Derived.Test.YtgphhlhpoffabaaWay9
import Derived.Deep.Cut
namespace Go.Proofs.Ytgphhlhpoffabaa
open Go.RowKit
set_option linter.unusedVariables false
set_option maxRecDepth 100000
set_option linter.unusedSimpArgs false

set_option maxHeartbeats 16000000 in
theorem lawWays_walk (a : Option Addr) (n c : Nat) (b : Option Addr) (m d : Nat) (w : World) (h : ArY w a n) (h' : ArY w b m) :
    Calls Try.prog 4 #[.slice a n c, .slice b m d] w fun e w' => e = .returned (.bool true) ∧ Below w.heap.size w w' := by
  by_cases big : 1048576 < wrap64 ((n : Int) + (m : Int))
  · have d1 : decide (1048576 < wrap64 ((n : Int) + (m : Int))) = true := decide_eq_true big
    go_enter Try.func4, Try.ntmps4
    go_wp2_with fail
    go_ret
    exact ⟨rfl, Below.refl _ _⟩
  have d1 : decide (1048576 < wrap64 ((n : Int) + (m : Int))) = false := decide_eq_false big
  have Y1 := hide h
  have Y2 := hide h'
  have BW : Hid (Below w.heap.size w w) := hide (Below.refl _ _)
  clear h h'
  go_enter Try.func4, Try.ntmps4
  go_wp2_with fail
  refine (drawSW a n c _ (unhide Y1)).mono ?_
  rintro e w1 ⟨a0, n0, c0, l, x, y, rfl, ar, nl, hn, bx, by_, hb⟩
  replace Y2 := hide ((unhide Y2).later hb)
  replace BW := hide (below_on (unhide BW) hb)
  clear hb
  clear Y1 d1 big nl
  have AR := hide ar
  have LN0 := hide ar.len
  clear ar
  have CI := hide (fun w (k : ArP w a0 n0 c0 l) => SplitWayI a0 n0 c0 l x y w k (by omega) ⟨by omega, by omega⟩ ⟨by omega, by omega⟩)
  have CS := hide (fun w (k : ArP w a0 n0 c0 l) => SplitWayS a0 n0 c0 l x y w k (by omega) ⟨by omega, by omega⟩ ⟨by omega, by omega⟩)
  have ME := hide (@sp_facts l x y)
  clear bx by_
  generalize sp1 l x y = L1 at *
  generalize sp2 l x y = L2 at *
  generalize spB l x y = ok at *
  have x1 : (ok != ok) = false := by simp
  go_wp2_with fail
  refine (unhide CI _ (unhide AR)).mono ?_
  rintro e w2 ⟨a1, n1, c1, a2, n2, c2, rfl, hb, rr, l12⟩
  replace Y2 := hide ((unhide Y2).later hb)
  replace AR := hide ((unhide AR).later hb)
  replace BW := hide (below_on (unhide BW) hb)
  clear hb
  have RR := hide rr
  have LN1 := hide rr.r1.len
  have LN2 := hide rr.r2.len
  clear rr
  go_wp2_with fail
  refine (unhide CS _ (unhide AR)).mono ?_
  rintro e w3 ⟨a3, n3, c3, a4, n4, c4, rfl, hb, r3, r4, e3, e4, l34⟩
  replace Y2 := hide ((unhide Y2).later hb)
  replace AR := hide ((unhide AR).later hb)
  replace RR := hide ((unhide RR).later hb)
  replace BW := hide (below_on (unhide BW) hb)
  clear hb
  obtain rfl : n3 = n1 := e3.symm.trans (unhide LN1)
  obtain rfl : n4 = n2 := e4.symm.trans (unhide LN2)
  have R3 := hide r3
  have R4 := hide r4
  clear r3 r4 e3 e4 CI CS l34
  go_wp2_with fail
  refine (samePts_v a1 a3 n3 c1 c3 L1 _ (unhide RR).r1.sl (unhide R3) (unhide LN1) (by omega)).mono ?_
  rintro e w4 ⟨rfl, hb⟩
  replace Y2 := hide ((unhide Y2).later hb)
  replace AR := hide ((unhide AR).later hb)
  replace RR := hide ((unhide RR).later hb)
  replace R3 := hide ((unhide R3).later hb)
  replace R4 := hide ((unhide R4).later hb)
  replace BW := hide (below_on (unhide BW) hb)
  clear hb
  go_wp2_with fail
  refine (samePts_v a2 a4 n4 c2 c4 L2 _ (unhide RR).r2.sl (unhide R4) (unhide LN2) (by omega)).mono ?_
  rintro e w5 ⟨rfl, hb⟩
  replace Y2 := hide ((unhide Y2).later hb)
  replace AR := hide ((unhide AR).later hb)
  replace RR := hide ((unhide RR).later hb)
  replace R3 := hide ((unhide R3).later hb)
  replace R4 := hide ((unhide R4).later hb)
  replace BW := hide (below_on (unhide BW) hb)
  clear hb
  clear R3 R4
  go_upto_if 82 with fail
  have FB0 : Hid (Below w5.heap.size w5 w5) := hide (Below.refl _ _)
  go_cut [] (fun wx => Hid (Below w5.heap.size w5 wx))
  case first => as_aux_lemma =>
    cases ok
    · skip
      go_wp2_with fail
      go_meet
      exact FB0
    · skip
      obtain ⟨g0, g1, g2, wi, are⟩ := unhide ME rfl
      have w0' := way_parts g0
      have w1' := way_parts g1
      have w2' := way_parts g2
      have ln0 := unhide LN0
      have ln1 := unhide LN1
      have ln2 := unhide LN2
      have p1 : 0 < n3 := by omega
      have p2 : 0 < n4 := by omega
      have b0 := arS_bd w0'.2 l.length (Nat.le_refl _)
      have b1 := arS_bd w1'.2 L1.length (Nat.le_refl _)
      have b2 := arS_bd w2'.2 L2.length (Nat.le_refl _)
      have CA0 := hide (fun w (k : ArP w a0 n0 c0 l) => AreaTwiceI_ a0 n0 c0 l w k (by omega))
      have CA1 := hide (fun w (k : ArP w a1 n3 c1 L1) => AreaTwiceI_ a1 n3 c1 L1 w k (by omega))
      have CA2 := hide (fun w (k : ArP w a2 n4 c2 L2) => AreaTwiceI_ a2 n4 c2 L2 w k (by omega))
      rw [g0] at CA0
      rw [g1] at CA1
      rw [g2] at CA2
      simp only [if_true] at CA0 CA1 CA2
      have AA : IntKind.i64.wrap (arS L1 L1.length + arS L2 L2.length) = arS l l.length ∧ (arS l l.length != arS l l.length) = false := ⟨by rw [IntKind.wrap_i64]; omega, by simp⟩
      have HAA := hide AA
      clear AA b0 b1 b2 are g0 g1 g2
      generalize arS l l.length = r0 at *
      generalize arS L1 L1.length = r1 at *
      generalize arS L2 L2.length = r2 at *
      have CW0 := hide (fun q w (k : ArP w a0 n0 c0 l) => WindingAtI a0 n0 c0 l q w k (by omega))
      have CW1 := hide (fun q w (k : ArP w a1 n3 c1 L1) => WindingAtI a1 n3 c1 L1 q w k (by omega))
      have CW2 := hide (fun q w (k : ArP w a2 n4 c2 L2) => WindingAtI a2 n4 c2 L2 q w k (by omega))
      have WI := hide wi
      clear wi w0' w1' w2' ln0 ln1 ln2
      go_wp2_with fail
      refine (drawOW b m d _ (unhide Y2)).mono ?_
      rintro e w6 ⟨a5, n5, c5, l5, q, rfl, ar5, nl5, n520, nq, hb⟩
      replace Y2 := hide ((unhide Y2).later hb)
      replace AR := hide ((unhide AR).later hb)
      replace RR := hide ((unhide RR).later hb)
      replace BW := hide (below_on (unhide BW) hb)
      replace FB0 := hide (below_on (unhide FB0) hb)
      clear hb
      have y5 : decide (100 < (n5 : Int)) = false := decide_eq_false (by omega)
      clear ar5 nl5 nq
      have al : Below w6.heap.size w6 (w6.alloc (.cells #[.int .i64 q.1, .int .i64 q.2] 25)) := ((Below.refl _ _).alloc (Nat.le_refl _) _)
      replace Y2 := hide ((unhide Y2).later al)
      replace AR := hide ((unhide AR).later al)
      replace RR := hide ((unhide RR).later al)
      replace BW := hide (below_on (unhide BW) al)
      replace FB0 := hide (below_on (unhide FB0) al)
      clear al
      have Kq : Hid (BxP (w6.alloc (.cells #[.int .i64 q.1, .int .i64 q.2] 25)) (w6.heap.size) q.1 q.2) := hide ((BxP.new (w := w6) (x := q.1) (y := q.2) (t := 25)))
      have WQ := hide (fun h1 h2 h3 => And.intro (unhide WI q h1 h2 h3) (And.intro (wnV_bd h1) (wnV_bd h2)))
      have D1 := hide (fun w k => unhide CW1 q w k)
      have D2 := hide (fun w k => unhide CW2 q w k)
      have D0 := hide (fun w k => unhide CW0 q w k)
      clear WI CW0 CW1 CW2
      generalize wnV l q = v0 at *
      generalize wnV L1 q = v1 at *
      generalize wnV L2 q = v2 at *
      generalize offB l q = t0 at *
      generalize offB L1 q = t1 at *
      generalize offB L2 q = t2 at *
      go_upto_region 10 with fail
      generalize (w6.alloc (.cells #[.int .i64 q.1, .int .i64 q.2] 25)) = w7 at *
      have Kq_0 := (unhide Kq).c0
      have Kq_1 := (unhide Kq).c1
      go_wp2_with fail
      refine (unhide D1 _ (rt_ar (unhide RR).r1 p1)).mono ?_
      rintro e w8 ⟨rfl, hb⟩
      clear Kq_0 Kq_1
      replace Kq := hide ((unhide Kq).later hb)
      replace Y2 := hide ((unhide Y2).later hb)
      replace AR := hide ((unhide AR).later hb)
      replace RR := hide ((unhide RR).later hb)
      replace BW := hide (below_on (unhide BW) hb)
      replace FB0 := hide (below_on (unhide FB0) hb)
      clear hb
      have Kq_0 := (unhide Kq).c0
      have Kq_1 := (unhide Kq).c1
      go_wp2_with fail
      refine (unhide D2 _ (rt_ar (unhide RR).r2 p2)).mono ?_
      rintro e w9 ⟨rfl, hb⟩
      clear Kq_0 Kq_1
      replace Kq := hide ((unhide Kq).later hb)
      replace Y2 := hide ((unhide Y2).later hb)
      replace AR := hide ((unhide AR).later hb)
      replace RR := hide ((unhide RR).later hb)
      replace BW := hide (below_on (unhide BW) hb)
      replace FB0 := hide (below_on (unhide FB0) hb)
      clear hb
      have Kq_0 := (unhide Kq).c0
      have Kq_1 := (unhide Kq).c1
      go_wp2_with fail
      refine (unhide D0 _ (unhide AR)).mono ?_
      rintro e w10 ⟨rfl, hb⟩
      clear Kq_0 Kq_1
      replace Kq := hide ((unhide Kq).later hb)
      replace Y2 := hide ((unhide Y2).later hb)
      replace AR := hide ((unhide AR).later hb)
      replace RR := hide ((unhide RR).later hb)
      replace BW := hide (below_on (unhide BW) hb)
      replace FB0 := hide (below_on (unhide FB0) hb)
      clear hb
      clear D0 D1 D2
      clear Kq
      go_upto_region 13 with fail
      have FB1 : Hid (Below w10.heap.size w10 w10) := hide (Below.refl _ _)
      go_cut [119] (fun v wx => v = .bool false ∧ Hid (Below w10.heap.size w10 wx))
      case first => as_aux_lemma =>
        cases t1
        · skip
          go_wp2_with fail
          go_meet
          exact ⟨rfl, FB1⟩
        · cases t2
          · skip
            go_wp2_with fail
            go_meet
            exact ⟨rfl, FB1⟩
          · cases t0
            · skip
              go_wp2_with fail
              go_meet
              exact ⟨rfl, FB1⟩
            · obtain ⟨ev, ⟨v3, v4⟩, v5, v6⟩ := unhide WQ rfl rfl rfl
              have iv : IntKind.i64.wrap (v1 + v2) = v0 := by rw [IntKind.wrap_i64]; omega
              have nv : (v0 != v0) = false := by simp
              clear ev v3 v4 v5 v6
              go_wp2_with fail
              go_meet
              exact ⟨rfl, FB1⟩
      case rest => as_aux_lemma =>
        obtain ⟨rfl, hcut⟩ := hcut
        obtain ⟨w11, hwc⟩ : ∃ x, x = wc := ⟨_, rfl⟩
        subst hwc
        have hb := unhide hcut
        clear hcut FB1
        replace Y2 := hide ((unhide Y2).later hb)
        replace AR := hide ((unhide AR).later hb)
        replace RR := hide ((unhide RR).later hb)
        replace BW := hide (below_on (unhide BW) hb)
        replace FB0 := hide (below_on (unhide FB0) hb)
        clear hb
        clear WQ
        go_wp2_with fail
        refine (unhide CA1 _ (rt_ar (unhide RR).r1 p1)).mono ?_
        rintro e w12 ⟨rfl, hb⟩
        replace Y2 := hide ((unhide Y2).later hb)
        replace AR := hide ((unhide AR).later hb)
        replace RR := hide ((unhide RR).later hb)
        replace BW := hide (below_on (unhide BW) hb)
        replace FB0 := hide (below_on (unhide FB0) hb)
        clear hb
        go_wp2_with fail
        refine (unhide CA2 _ (rt_ar (unhide RR).r2 p2)).mono ?_
        rintro e w13 ⟨rfl, hb⟩
        replace Y2 := hide ((unhide Y2).later hb)
        replace AR := hide ((unhide AR).later hb)
        replace RR := hide ((unhide RR).later hb)
        replace BW := hide (below_on (unhide BW) hb)
        replace FB0 := hide (below_on (unhide FB0) hb)
        clear hb
        go_wp2_with fail
        refine (unhide CA0 _ (unhide AR)).mono ?_
        rintro e w14 ⟨rfl, hb⟩
        replace Y2 := hide ((unhide Y2).later hb)
        replace AR := hide ((unhide AR).later hb)
        replace RR := hide ((unhide RR).later hb)
        replace BW := hide (below_on (unhide BW) hb)
        replace FB0 := hide (below_on (unhide FB0) hb)
        clear hb
        have iA := (unhide HAA).1
        have iB := (unhide HAA).2
        go_wp2_with fail
        go_meet
        exact FB0
  case rest => as_aux_lemma =>
    obtain hcut := hcut
    obtain ⟨w15, hwc⟩ : ∃ x, x = wc := ⟨_, rfl⟩
    subst hwc
    have hb := unhide hcut
    clear hcut FB0
    replace Y2 := hide ((unhide Y2).later hb)
    replace AR := hide ((unhide AR).later hb)
    replace RR := hide ((unhide RR).later hb)
    replace BW := hide (below_on (unhide BW) hb)
    clear hb
    clear AR RR
    clear ME x1 LN0 LN1 LN2 l12 hn
    go_wp2_with fail
    refine (drawWs b m d _ (unhide Y2)).mono ?_
    rintro e w16 ⟨a6, n6, c6, l6, rfl, ar, nl, hn, hb⟩
    replace Y2 := hide ((unhide Y2).later hb)
    replace BW := hide (below_on (unhide BW) hb)
    clear hb
    clear Y2
    have AR := hide (ar)
    clear ar nl
    have C1 := hide (fun w (k : ArP w a6 n6 c6 l6) => WindingSumI a6 n6 c6 l6 w k (by omega))
    have C2 := hide (fun w (k : ArP w a6 n6 c6 l6) => WindingSumS a6 n6 c6 l6 w k (by omega))
    have C3 := hide (fun w (k : ArP w a6 n6 c6 l6) => BoxOfI a6 n6 c6 l6 w k (by omega))
    have C4 := hide (fun w (k : ArP w a6 n6 c6 l6) => BoxOfS a6 n6 c6 l6 w k (by omega))
    generalize wsV l6 = s at *
    generalize wsB l6 = t at *
    generalize bxL l6 = u at *
    generalize bxH l6 = v at *
    generalize wayB l6 = z at *
    have q1 : (t == t) = true := by simp
    have q2 : (s == s) = true := by simp
    have q3 : (z == z) = true := by simp
    have q4 : (u.1 == u.1) = true := by simp
    have q5 : (u.2 == u.2) = true := by simp
    have q6 : (v.1 == v.1) = true := by simp
    have q7 : (v.2 == v.2) = true := by simp
    go_wp2_with fail
    refine (unhide C1 _ (unhide AR)).mono ?_
    rintro e w17 ⟨rfl, hb⟩
    replace AR := hide ((unhide AR).later hb)
    replace BW := hide (below_on (unhide BW) hb)
    clear hb
    go_wp2_with fail
    refine (unhide C2 _ (unhide AR)).mono ?_
    rintro e w18 ⟨rfl, hb⟩
    replace AR := hide ((unhide AR).later hb)
    replace BW := hide (below_on (unhide BW) hb)
    clear hb
    go_wp2_with fail
    refine (unhide C3 _ (unhide AR)).mono ?_
    rintro e w19 ⟨rfl, hb⟩
    replace AR := hide ((unhide AR).later hb)
    replace BW := hide (below_on (unhide BW) hb)
    clear hb
    have al : Below w19.heap.size w19 ((w19.alloc (.cells #[.int .i64 u.1, .int .i64 u.2] 25)).alloc (.cells #[.int .i64 v.1, .int .i64 v.2] 25)) := (((Below.refl _ _).alloc (Nat.le_refl _) _).alloc (by simp) _)
    replace AR := hide ((unhide AR).later al)
    replace BW := hide (below_on (unhide BW) al)
    clear al
    have Ka : Hid (BxP ((w19.alloc (.cells #[.int .i64 u.1, .int .i64 u.2] 25)).alloc (.cells #[.int .i64 v.1, .int .i64 v.2] 25)) (w19.heap.size) u.1 u.2) := hide (((BxP.new (w := w19) (x := u.1) (y := u.2) (t := 25)).later ((Below.refl _ _).alloc (Nat.le_refl _) _)))
    have zz : (w19.alloc (.cells #[.int .i64 u.1, .int .i64 u.2] 25)).heap.size = w19.heap.size + 1 := by simp
    have Kb : Hid (BxP ((w19.alloc (.cells #[.int .i64 u.1, .int .i64 u.2] 25)).alloc (.cells #[.int .i64 v.1, .int .i64 v.2] 25)) (w19.heap.size + 1) v.1 v.2) := hide (zz ▸ (BxP.new (w := (w19.alloc (.cells #[.int .i64 u.1, .int .i64 u.2] 25))) (x := v.1) (y := v.2) (t := 25)))
    clear zz
    go_upto_region 24 with fail
    generalize ((w19.alloc (.cells #[.int .i64 u.1, .int .i64 u.2] 25)).alloc (.cells #[.int .i64 v.1, .int .i64 v.2] 25)) = w20 at *
    go_wp2_with fail
    refine (unhide C4 _ (unhide AR)).mono ?_
    rintro e w21 ⟨rfl, hb⟩
    replace Ka := hide ((unhide Ka).later hb)
    replace Kb := hide ((unhide Kb).later hb)
    replace AR := hide ((unhide AR).later hb)
    replace BW := hide (below_on (unhide BW) hb)
    clear hb
    have al : Below w21.heap.size w21 ((w21.alloc (.cells #[.int .i64 u.1, .int .i64 u.2] 25)).alloc (.cells #[.int .i64 v.1, .int .i64 v.2] 25)) := (((Below.refl _ _).alloc (Nat.le_refl _) _).alloc (by simp) _)
    replace Ka := hide ((unhide Ka).later al)
    replace Kb := hide ((unhide Kb).later al)
    replace AR := hide ((unhide AR).later al)
    replace BW := hide (below_on (unhide BW) al)
    clear al
    have Kc : Hid (BxP ((w21.alloc (.cells #[.int .i64 u.1, .int .i64 u.2] 25)).alloc (.cells #[.int .i64 v.1, .int .i64 v.2] 25)) (w21.heap.size) u.1 u.2) := hide (((BxP.new (w := w21) (x := u.1) (y := u.2) (t := 25)).later ((Below.refl _ _).alloc (Nat.le_refl _) _)))
    have zz : (w21.alloc (.cells #[.int .i64 u.1, .int .i64 u.2] 25)).heap.size = w21.heap.size + 1 := by simp
    have Kd : Hid (BxP ((w21.alloc (.cells #[.int .i64 u.1, .int .i64 u.2] 25)).alloc (.cells #[.int .i64 v.1, .int .i64 v.2] 25)) (w21.heap.size + 1) v.1 v.2) := hide (zz ▸ (BxP.new (w := (w21.alloc (.cells #[.int .i64 u.1, .int .i64 u.2] 25))) (x := v.1) (y := v.2) (t := 25)))
    clear zz
    go_upto_region 25 with fail
    generalize ((w21.alloc (.cells #[.int .i64 u.1, .int .i64 u.2] 25)).alloc (.cells #[.int .i64 v.1, .int .i64 v.2] 25)) = w22 at *
    have Ka_0 := (unhide Ka).c0
    have Ka_1 := (unhide Ka).c1
    have Kb_0 := (unhide Kb).c0
    have Kb_1 := (unhide Kb).c1
    have Kc_0 := (unhide Kc).c0
    have Kc_1 := (unhide Kc).c1
    have Kd_0 := (unhide Kd).c0
    have Kd_1 := (unhide Kd).c1
    go_wp2_with fail
    go_ret
    exact ⟨rfl, unhide BW⟩
end Go.Proofs.Ytgphhlhpoffabaa

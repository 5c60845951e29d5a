/- The walk through the law FnPoints: it returns true. No condition beyond those typed. Written by mkpoints.py. -/
import Derived.Test.YtpchoiaombigjaaPts8
import Derived.Deep.Cut
namespace Go.Proofs.Ytpchoiaombigjaa
open Go.RowKit
set_option linter.unusedVariables false
set_option maxRecDepth 100000
set_option linter.unusedSimpArgs false

set_option maxHeartbeats 16000000 in
theorem lawPoints_walk (a : Option Addr) (n c : Nat) (b : Option Addr) (m d : Nat) (w : World) (h : ArY w a n) (h' : ArY w b m) :
    Calls Try.prog 3 #[.slice a n c, .slice b m d] w fun e w' => e = .returned (.bool true) ∧ Below w.heap.size w w' := by
  by_cases big : 1048576 < wrap64 ((n : Int) + (m : Int))
  · have d1 : decide (1048576 < wrap64 ((n : Int) + (m : Int))) = true := decide_eq_true big
    go_enter Try.func3, Try.ntmps3
    go_wp2_with fail
    go_ret
    exact ⟨rfl, Below.refl _ _⟩
  have d1 : decide (1048576 < wrap64 ((n : Int) + (m : Int))) = false := decide_eq_false big
  have Y1 := hide h
  have Y2 := hide h'
  have BW : Hid (Below w.heap.size w w) := hide (Below.refl _ _)
  clear h h'
  go_enter Try.func3, Try.ntmps3
  go_wp2_with fail
  refine (drawSM a n c _ (unhide Y1)).mono ?_
  rintro e w1 ⟨p, q, r, s, rfl, nn, hb⟩
  replace Y2 := hide ((unhide Y2).later hb)
  replace BW := hide (below_on (unhide BW) hb)
  clear hb
  clear Y1 nn d1 big
  have al : Below w1.heap.size w1 ((((w1.alloc (.cells #[.int .i64 p.1, .int .i64 p.2] 24)).alloc (.cells #[.int .i64 q.1, .int .i64 q.2] 24)).alloc (.cells #[.int .i64 r.1, .int .i64 r.2] 24)).alloc (.cells #[.int .i64 s.1, .int .i64 s.2] 24)) := (((((Below.refl _ _).alloc (Nat.le_refl _) _).alloc (by simp) _).alloc (by simp; omega) _).alloc (by simp; omega) _)
  replace Y2 := hide ((unhide Y2).later al)
  replace BW := hide (below_on (unhide BW) al)
  clear al
  have Ka : Hid (BxP ((((w1.alloc (.cells #[.int .i64 p.1, .int .i64 p.2] 24)).alloc (.cells #[.int .i64 q.1, .int .i64 q.2] 24)).alloc (.cells #[.int .i64 r.1, .int .i64 r.2] 24)).alloc (.cells #[.int .i64 s.1, .int .i64 s.2] 24)) (w1.heap.size) p.1 p.2) := hide (((((BxP.new (w := w1) (x := p.1) (y := p.2) (t := 24)).later ((Below.refl _ _).alloc (Nat.le_refl _) _)).later ((Below.refl _ _).alloc (Nat.le_refl _) _)).later ((Below.refl _ _).alloc (Nat.le_refl _) _)))
  have zz : (w1.alloc (.cells #[.int .i64 p.1, .int .i64 p.2] 24)).heap.size = w1.heap.size + 1 := by simp
  have Kb : Hid (BxP ((((w1.alloc (.cells #[.int .i64 p.1, .int .i64 p.2] 24)).alloc (.cells #[.int .i64 q.1, .int .i64 q.2] 24)).alloc (.cells #[.int .i64 r.1, .int .i64 r.2] 24)).alloc (.cells #[.int .i64 s.1, .int .i64 s.2] 24)) (w1.heap.size + 1) q.1 q.2) := hide (zz ▸ (((BxP.new (w := (w1.alloc (.cells #[.int .i64 p.1, .int .i64 p.2] 24))) (x := q.1) (y := q.2) (t := 24)).later ((Below.refl _ _).alloc (Nat.le_refl _) _)).later ((Below.refl _ _).alloc (Nat.le_refl _) _)))
  clear zz
  have zz : ((w1.alloc (.cells #[.int .i64 p.1, .int .i64 p.2] 24)).alloc (.cells #[.int .i64 q.1, .int .i64 q.2] 24)).heap.size = w1.heap.size + 1 + 1 := by simp
  have Kc : Hid (BxP ((((w1.alloc (.cells #[.int .i64 p.1, .int .i64 p.2] 24)).alloc (.cells #[.int .i64 q.1, .int .i64 q.2] 24)).alloc (.cells #[.int .i64 r.1, .int .i64 r.2] 24)).alloc (.cells #[.int .i64 s.1, .int .i64 s.2] 24)) (w1.heap.size + 1 + 1) r.1 r.2) := hide (zz ▸ ((BxP.new (w := ((w1.alloc (.cells #[.int .i64 p.1, .int .i64 p.2] 24)).alloc (.cells #[.int .i64 q.1, .int .i64 q.2] 24))) (x := r.1) (y := r.2) (t := 24)).later ((Below.refl _ _).alloc (Nat.le_refl _) _)))
  clear zz
  have zz : (((w1.alloc (.cells #[.int .i64 p.1, .int .i64 p.2] 24)).alloc (.cells #[.int .i64 q.1, .int .i64 q.2] 24)).alloc (.cells #[.int .i64 r.1, .int .i64 r.2] 24)).heap.size = w1.heap.size + 1 + 1 + 1 := by simp
  have Kd : Hid (BxP ((((w1.alloc (.cells #[.int .i64 p.1, .int .i64 p.2] 24)).alloc (.cells #[.int .i64 q.1, .int .i64 q.2] 24)).alloc (.cells #[.int .i64 r.1, .int .i64 r.2] 24)).alloc (.cells #[.int .i64 s.1, .int .i64 s.2] 24)) (w1.heap.size + 1 + 1 + 1) s.1 s.2) := hide (zz ▸ (BxP.new (w := (((w1.alloc (.cells #[.int .i64 p.1, .int .i64 p.2] 24)).alloc (.cells #[.int .i64 q.1, .int .i64 q.2] 24)).alloc (.cells #[.int .i64 r.1, .int .i64 r.2] 24))) (x := s.1) (y := s.2) (t := 24)))
  clear zz
  obtain ⟨sm, ok, o, ok3, sg, g, pf⟩ := pts_pf p q r s
  have HP := hide pf
  clear pf
  have x1 : (sm != sm) = false := by simp
  have x2 : (ok != ok) = false := by simp
  have x3 : (o != o) = false := by simp
  have x4 : (ok3 != ok3) = false := by simp
  have x5 : (sg != sg) = false := by simp
  have x6 : (g != g) = false := by simp
  go_upto_region 4 with fail
  generalize ((((w1.alloc (.cells #[.int .i64 p.1, .int .i64 p.2] 24)).alloc (.cells #[.int .i64 q.1, .int .i64 q.2] 24)).alloc (.cells #[.int .i64 r.1, .int .i64 r.2] 24)).alloc (.cells #[.int .i64 s.1, .int .i64 s.2] 24)) = w2 at *
  have Ka_0 := (unhide Ka).c0
  have Ka_1 := (unhide Ka).c1
  have Kb_0 := (unhide Kb).c0
  have Kb_1 := (unhide Kb).c1
  have Kc_0 := (unhide Kc).c0
  have Kc_1 := (unhide Kc).c1
  have Kd_0 := (unhide Kd).c0
  have Kd_1 := (unhide Kd).c1
  go_wp2_with fail
  refine ((unhide HP).c1 _).mono ?_
  rintro e w3 ⟨rfl, hb⟩
  clear Ka_0 Ka_1 Kb_0 Kb_1 Kc_0 Kc_1 Kd_0 Kd_1
  replace Ka := hide ((unhide Ka).later hb)
  replace Kb := hide ((unhide Kb).later hb)
  replace Kc := hide ((unhide Kc).later hb)
  replace Kd := hide ((unhide Kd).later hb)
  replace Y2 := hide ((unhide Y2).later hb)
  replace BW := hide (below_on (unhide BW) hb)
  clear hb
  have Ka_0 := (unhide Ka).c0
  have Ka_1 := (unhide Ka).c1
  have Kb_0 := (unhide Kb).c0
  have Kb_1 := (unhide Kb).c1
  have Kc_0 := (unhide Kc).c0
  have Kc_1 := (unhide Kc).c1
  have Kd_0 := (unhide Kd).c0
  have Kd_1 := (unhide Kd).c1
  go_wp2_with fail
  refine ((unhide HP).c2 _).mono ?_
  rintro e w4 ⟨rfl, hb⟩
  clear Ka_0 Ka_1 Kb_0 Kb_1 Kc_0 Kc_1 Kd_0 Kd_1
  replace Ka := hide ((unhide Ka).later hb)
  replace Kb := hide ((unhide Kb).later hb)
  replace Kc := hide ((unhide Kc).later hb)
  replace Kd := hide ((unhide Kd).later hb)
  replace Y2 := hide ((unhide Y2).later hb)
  replace BW := hide (below_on (unhide BW) hb)
  clear hb
  have Ka_0 := (unhide Ka).c0
  have Ka_1 := (unhide Ka).c1
  have Kb_0 := (unhide Kb).c0
  have Kb_1 := (unhide Kb).c1
  have Kc_0 := (unhide Kc).c0
  have Kc_1 := (unhide Kc).c1
  go_wp2_with fail
  refine ((unhide HP).c3 _).mono ?_
  rintro e w5 ⟨rfl, hb⟩
  clear Ka_0 Ka_1 Kb_0 Kb_1 Kc_0 Kc_1
  replace Ka := hide ((unhide Ka).later hb)
  replace Kb := hide ((unhide Kb).later hb)
  replace Kc := hide ((unhide Kc).later hb)
  replace Kd := hide ((unhide Kd).later hb)
  replace Y2 := hide ((unhide Y2).later hb)
  replace BW := hide (below_on (unhide BW) hb)
  clear hb
  have Ka_0 := (unhide Ka).c0
  have Ka_1 := (unhide Ka).c1
  have Kb_0 := (unhide Kb).c0
  have Kb_1 := (unhide Kb).c1
  have Kc_0 := (unhide Kc).c0
  have Kc_1 := (unhide Kc).c1
  go_wp2_with fail
  refine ((unhide HP).c4 _).mono ?_
  rintro e w6 ⟨rfl, hb⟩
  clear Ka_0 Ka_1 Kb_0 Kb_1 Kc_0 Kc_1
  replace Ka := hide ((unhide Ka).later hb)
  replace Kb := hide ((unhide Kb).later hb)
  replace Kc := hide ((unhide Kc).later hb)
  replace Kd := hide ((unhide Kd).later hb)
  replace Y2 := hide ((unhide Y2).later hb)
  replace BW := hide (below_on (unhide BW) hb)
  clear hb
  have Ka_0 := (unhide Ka).c0
  have Ka_1 := (unhide Ka).c1
  have Kb_0 := (unhide Kb).c0
  have Kb_1 := (unhide Kb).c1
  have Kc_0 := (unhide Kc).c0
  have Kc_1 := (unhide Kc).c1
  go_wp2_with fail
  refine ((unhide HP).c5 _).mono ?_
  rintro e w7 ⟨rfl, hb⟩
  clear Ka_0 Ka_1 Kb_0 Kb_1 Kc_0 Kc_1
  replace Ka := hide ((unhide Ka).later hb)
  replace Kb := hide ((unhide Kb).later hb)
  replace Kc := hide ((unhide Kc).later hb)
  replace Kd := hide ((unhide Kd).later hb)
  replace Y2 := hide ((unhide Y2).later hb)
  replace BW := hide (below_on (unhide BW) hb)
  clear hb
  have Ka_0 := (unhide Ka).c0
  have Ka_1 := (unhide Ka).c1
  have Kb_0 := (unhide Kb).c0
  have Kb_1 := (unhide Kb).c1
  have Kc_0 := (unhide Kc).c0
  have Kc_1 := (unhide Kc).c1
  go_wp2_with fail
  refine ((unhide HP).c6 _).mono ?_
  rintro e w8 ⟨rfl, hb⟩
  clear Ka_0 Ka_1 Kb_0 Kb_1 Kc_0 Kc_1
  replace Ka := hide ((unhide Ka).later hb)
  replace Kb := hide ((unhide Kb).later hb)
  replace Kc := hide ((unhide Kc).later hb)
  replace Kd := hide ((unhide Kd).later hb)
  replace Y2 := hide ((unhide Y2).later hb)
  replace BW := hide (below_on (unhide BW) hb)
  clear hb
  go_upto_region 10 with fail
  have Ka_0 := (unhide Ka).c0
  have Ka_1 := (unhide Ka).c1
  have HX0 : Hid True := hide trivial
  go_region_held3 (fun w' => w'.cell? ⟨w1.heap.size, 0, none⟩ = some (.int .i64 p.1) ∧ w'.cell? ⟨w1.heap.size, 1, none⟩ = some (.int .i64 p.2))
    (with_reducible (first | exact ⟨Ka_0, Ka_1⟩ | exact ⟨cdP Ka_0, cdP Ka_1⟩ | fail))
    (first
    | (have chk := HX0; go_at_call 23; refine ((unhide HP).g1 _).mono ?_; rintro e wg1 ⟨rfl, hb1⟩; have hbx := below_of_drew hb1; replace Ka := hide ((unhide Ka).later hbx); replace Kb := hide ((unhide Kb).later hbx); replace Kc := hide ((unhide Kc).later hbx); replace Kd := hide ((unhide Kd).later hbx); replace Y2 := hide ((unhide Y2).later hbx); replace BW := hide (below_on (unhide BW) hbx); replace Ka_0 := cell_later hbx Ka_0; replace Ka_1 := cell_later hbx Ka_1; clear hb1 hbx; clear HX0 chk; have HX1 : Hid True := hide trivial)
    | (have chk := HX1; go_at_call 24; refine ((unhide HP).g2 _).mono ?_; rintro e wg2 ⟨rfl, hb1⟩; have hbx := hb1; replace Ka := hide ((unhide Ka).later hbx); replace Kb := hide ((unhide Kb).later hbx); replace Kc := hide ((unhide Kc).later hbx); replace Kd := hide ((unhide Kd).later hbx); replace Y2 := hide ((unhide Y2).later hbx); replace BW := hide (below_on (unhide BW) hbx); replace Ka_0 := cell_later hbx Ka_0; replace Ka_1 := cell_later hbx Ka_1; clear hb1 hbx; clear HX1 chk)
    | fail)
  clear Ka_0 Ka_1
  go_upto_if 135 with fail
  have FB0 : Hid (Below wg2.heap.size wg2 wg2) := hide (Below.refl _ _)
  go_cut [] (fun wx => Hid (Below wg2.heap.size wg2 wx))
  case first => as_aux_lemma =>
    cases ok
    · skip
      go_wp2_with fail
      go_meet
      exact FB0
    · skip
      have k3 := (unhide HP).h3 rfl
      subst k3
      have NO : IntKind.i64.wrap (-o) = -o := by have := (unhide HP).ho; rw [IntKind.wrap_i64]; omega
      have y1 : ((-o) != (-o)) = false := by simp
      have Ka_0 := (unhide Ka).c0
      have Ka_1 := (unhide Ka).c1
      have Kb_0 := (unhide Kb).c0
      have Kb_1 := (unhide Kb).c1
      have Kc_0 := (unhide Kc).c0
      have Kc_1 := (unhide Kc).c1
      have Kd_0 := (unhide Kd).c0
      have Kd_1 := (unhide Kd).c1
      go_wp2_with fail
      refine ((unhide HP).c7 _).mono ?_
      rintro e w9 ⟨rfl, hb⟩
      clear Ka_0 Ka_1 Kb_0 Kb_1 Kc_0 Kc_1 Kd_0 Kd_1
      replace Ka := hide ((unhide Ka).later hb)
      replace Kb := hide ((unhide Kb).later hb)
      replace Kc := hide ((unhide Kc).later hb)
      replace Kd := hide ((unhide Kd).later hb)
      replace Y2 := hide ((unhide Y2).later hb)
      replace BW := hide (below_on (unhide BW) hb)
      replace FB0 := hide (below_on (unhide FB0) hb)
      clear hb
      have Ka_0 := (unhide Ka).c0
      have Ka_1 := (unhide Ka).c1
      have Kb_0 := (unhide Kb).c0
      have Kb_1 := (unhide Kb).c1
      have Kc_0 := (unhide Kc).c0
      have Kc_1 := (unhide Kc).c1
      go_wp2_with fail
      refine ((unhide HP).c8 _).mono ?_
      rintro e w10 ⟨rfl, hb⟩
      clear Ka_0 Ka_1 Kb_0 Kb_1 Kc_0 Kc_1
      replace Ka := hide ((unhide Ka).later hb)
      replace Kb := hide ((unhide Kb).later hb)
      replace Kc := hide ((unhide Kc).later hb)
      replace Kd := hide ((unhide Kd).later hb)
      replace Y2 := hide ((unhide Y2).later hb)
      replace BW := hide (below_on (unhide BW) hb)
      replace FB0 := hide (below_on (unhide FB0) hb)
      clear hb
      have Ka_0 := (unhide Ka).c0
      have Ka_1 := (unhide Ka).c1
      have Kb_0 := (unhide Kb).c0
      have Kb_1 := (unhide Kb).c1
      have Kc_0 := (unhide Kc).c0
      have Kc_1 := (unhide Kc).c1
      go_wp2_with fail
      refine ((unhide HP).c9 _).mono ?_
      rintro e w11 ⟨rfl, hb⟩
      clear Ka_0 Ka_1 Kb_0 Kb_1 Kc_0 Kc_1
      replace Ka := hide ((unhide Ka).later hb)
      replace Kb := hide ((unhide Kb).later hb)
      replace Kc := hide ((unhide Kc).later hb)
      replace Kd := hide ((unhide Kd).later hb)
      replace Y2 := hide ((unhide Y2).later hb)
      replace BW := hide (below_on (unhide BW) hb)
      replace FB0 := hide (below_on (unhide FB0) hb)
      clear hb
      cases sg
      · skip
        go_wp2_with fail
        go_meet
        exact FB0
      · obtain ⟨e1, e2⟩ := (unhide HP).hs rfl rfl
        subst e2
        have y2 : (o != 0) = false := by rw [e1]; simp
        clear e1
        go_wp2_with fail
        go_meet
        exact FB0
  case rest => as_aux_lemma =>
    obtain hcut := hcut
    obtain ⟨w12, hwc⟩ : ∃ x, x = wc := ⟨_, rfl⟩
    subst hwc
    have hb := unhide hcut
    clear hcut FB0
    replace Ka := hide ((unhide Ka).later hb)
    replace Kb := hide ((unhide Kb).later hb)
    replace Kc := hide ((unhide Kc).later hb)
    replace Kd := hide ((unhide Kd).later hb)
    replace Y2 := hide ((unhide Y2).later hb)
    replace BW := hide (below_on (unhide BW) hb)
    clear hb
    clear Ka Kb Kc Kd
    clear HP x1 x2 x3 x4 x5 x6
    go_wp2_with fail
    refine (drawGI b m d _ (unhide Y2)).mono ?_
    rintro e w13 ⟨x, y, rfl, xb, hb⟩
    replace Y2 := hide ((unhide Y2).later hb)
    replace BW := hide (below_on (unhide BW) hb)
    clear hb
    obtain ⟨gg, gk, gf⟩ := gcd_gf x y ⟨xb.1, xb.2.1⟩ ⟨xb.2.2.1, xb.2.2.2⟩
    have HG := hide gf
    clear gf
    have x1 : (gg != gg) = false := by simp
    have x2 : (gk != gk) = false := by simp
    go_wp2_with fail
    refine ((unhide HG).c1 _).mono ?_
    rintro e w14 ⟨rfl, hb⟩
    replace Y2 := hide ((unhide Y2).later hb)
    replace BW := hide (below_on (unhide BW) hb)
    clear hb
    go_wp2_with fail
    refine ((unhide HG).c2 _).mono ?_
    rintro e w15 ⟨rfl, hb⟩
    replace Y2 := hide ((unhide Y2).later hb)
    replace BW := hide (below_on (unhide BW) hb)
    clear hb
    go_upto_region 21 with fail
    have FB1 : Hid (Below w15.heap.size w15 w15) := hide (Below.refl _ _)
    go_cut [238] (fun v wx => v = .bool false ∧ Hid (Below w15.heap.size w15 wx))
    case first => as_aux_lemma =>
      cases gk
      · skip
        go_wp2_with fail
        go_meet
        exact ⟨rfl, FB1⟩
      · by_cases hg : 0 < gg
        · have y0 : decide (0 < gg) = true := decide_eq_true hg
          obtain ⟨t1, t2⟩ := (unhide HG).hd hg
          have y1 : (gg == 0) = false := by simp; omega
          have y2 : gg ≠ 0 := by omega
          have y3 : IntKind.i64.wrap (x.tmod gg) = 0 := by rw [t1]; rfl
          have y4 : IntKind.i64.wrap (y.tmod gg) = 0 := by rw [t2]; rfl
          clear hg
          go_wp2_with fail
          go_meet
          exact ⟨rfl, FB1⟩
        · have y0 : decide (0 < gg) = false := decide_eq_false hg
          clear hg
          go_wp2_with fail
          go_meet
          exact ⟨rfl, FB1⟩
    case rest => as_aux_lemma =>
      obtain ⟨rfl, hcut⟩ := hcut
      obtain ⟨w16, hwc⟩ : ∃ x, x = wc := ⟨_, rfl⟩
      subst hwc
      have hb := unhide hcut
      clear hcut FB1
      replace Y2 := hide ((unhide Y2).later hb)
      replace BW := hide (below_on (unhide BW) hb)
      clear hb
      clear HG x1 x2 xb
      go_wp2_with fail
      refine (drawMP b m d _ (unhide Y2)).mono ?_
      rintro e w17 ⟨a1, n1, c1, l, q2, rfl, ar, nl, hn, nq, hb⟩
      replace Y2 := hide ((unhide Y2).later hb)
      replace BW := hide (below_on (unhide BW) hb)
      clear hb
      clear Y2
      have AR := hide (ar)
      clear ar
      have al : Below w17.heap.size w17 (w17.alloc (.cells #[.int .i64 q2.1, .int .i64 q2.2] 24)) := ((Below.refl _ _).alloc (Nat.le_refl _) _)
      replace AR := hide ((unhide AR).later al)
      replace BW := hide (below_on (unhide BW) al)
      clear al
      have Kq : Hid (BxP (w17.alloc (.cells #[.int .i64 q2.1, .int .i64 q2.2] 24)) (w17.heap.size) q2.1 q2.2) := hide ((BxP.new (w := w17) (x := q2.1) (y := q2.2) (t := 24)))
      have NL := hide nl
      clear nl nq
      have CI := hide (fun w (k : ArP w a1 n1 c1 l) => MovePtsI a1 n1 c1 l q2 w k (by omega))
      have CS := hide (fun w (k : ArP w a1 n1 c1 l) => MovePtsS a1 n1 c1 l q2 w k (by omega))
      have ME := hide (@mvB_way l q2)
      generalize hV : mvV l q2 = V at *
      generalize hB : mvB l q2 = five at *
      clear hV hB
      have x1 : (five != five) = false := by simp
      go_upto_region 24 with fail
      generalize (w17.alloc (.cells #[.int .i64 q2.1, .int .i64 q2.2] 24)) = w18 at *
      have Kq_0 := (unhide Kq).c0
      have Kq_1 := (unhide Kq).c1
      go_wp2_with fail
      refine (unhide CI _ (unhide AR)).mono ?_
      rintro e w19 ⟨a2, n2, c2, rfl, hb, rt, l2⟩
      clear Kq_0 Kq_1
      replace Kq := hide ((unhide Kq).later hb)
      replace AR := hide ((unhide AR).later hb)
      replace BW := hide (below_on (unhide BW) hb)
      clear hb
      have R2 := hide rt.sl.below8
      have LN := hide rt.len
      have RR := hide rt
      clear rt
      have Kq_0 := (unhide Kq).c0
      have Kq_1 := (unhide Kq).c1
      go_wp2_with fail
      refine (unhide CS _ (unhide AR)).mono ?_
      rintro e w20 ⟨a3, n3, c3, rfl, hb, rt, l3⟩
      clear Kq_0 Kq_1
      replace Kq := hide ((unhide Kq).later hb)
      replace AR := hide ((unhide AR).later hb)
      replace R2 := hide ((unhide R2).later hb)
      replace RR := hide ((unhide RR).later hb)
      replace BW := hide (below_on (unhide BW) hb)
      clear hb
      obtain rfl : n3 = n2 := rt.len.symm.trans (unhide LN)
      have R3 := hide rt.sl.below8
      clear rt
      go_wp2_with fail
      refine (samePts_v a2 a3 n3 c2 c3 V _ (unhide R2).sl (unhide R3).sl (unhide LN) l3).mono ?_
      rintro e w21 ⟨rfl, hb⟩
      replace Kq := hide ((unhide Kq).later hb)
      replace AR := hide ((unhide AR).later hb)
      replace R2 := hide ((unhide R2).later hb)
      replace RR := hide ((unhide RR).later hb)
      replace R3 := hide ((unhide R3).later hb)
      replace BW := hide (below_on (unhide BW) hb)
      clear hb
      clear Kq R2 R3
      cases five
      · go_wp2_with fail
        go_ret
        exact ⟨rfl, unhide BW⟩
      · obtain ⟨h1, h2, h3⟩ := unhide ME rfl
        subst h3
        have ln := unhide LN
        rw [mv_len] at ln
        have lw := (way_parts h1).1
        have CA := hide (fun w (k : ArP w a1 n1 c1 l) => AreaTwiceI_ a1 n1 c1 l w k (by omega))
        have CB := hide (fun w (k : ArP w a2 n3 c2 (mvL l q2)) => AreaTwiceI_ a2 n3 c2 (mvL l q2) w k (by omega))
        rw [h1] at CA
        rw [h2] at CB
        simp only [if_true] at CA CB
        rw [ar_moved (show 0 < l.length by omega)] at CB
        generalize arS l l.length = A at *
        have xa : (A == A) = true := by simp
        have n30 : 0 < n3 := by omega
        clear h1 h2 ln lw
        go_wp2_with fail
        refine (unhide CA _ (unhide AR)).mono ?_
        rintro e w22 ⟨rfl, hb⟩
        replace AR := hide ((unhide AR).later hb)
        replace RR := hide ((unhide RR).later hb)
        replace BW := hide (below_on (unhide BW) hb)
        clear hb
        go_wp2_with fail
        refine (unhide CB _ (rt_ar (unhide RR) n30)).mono ?_
        rintro e w23 ⟨rfl, hb⟩
        replace AR := hide ((unhide AR).later hb)
        replace RR := hide ((unhide RR).later hb)
        replace BW := hide (below_on (unhide BW) hb)
        clear hb
        go_wp2_with fail
        go_ret
        exact ⟨rfl, unhide BW⟩
end Go.Proofs.Ytpchoiaombigjaa

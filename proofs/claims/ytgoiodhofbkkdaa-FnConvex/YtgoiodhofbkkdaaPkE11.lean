/- The walk through the law FnConvex: it returns true. No condition beyond those typed. Written by mkconvex.py. -/
import Derived.Test.YtgoiodhofbkkdaaPkH11
import Derived.Test.YtgoiodhofbkkdaaPkG11
import Derived.Deep.Cut
namespace Go.Proofs.Ytgoiodhofbkkdaa
open Go.RowKit
set_option linter.unusedVariables false
set_option maxRecDepth 100000
set_option linter.unusedSimpArgs false

set_option maxHeartbeats 16000000 in
theorem lawConvex_walk (a : Option Addr) (n c : Nat) (b : Option Addr) (m d : Nat) (w : World) (h : ArY w a n) (h' : ArY w b m) :
    Calls Try.prog 4 #[.slice a n c, .slice b m d] w fun e w' => e = .returned (.bool true) ∧ Below w.heap.size w w' := by
  by_cases big : 1048576 < wrap64 ((n : Int) + (m : Int))
  · have d1 : decide (1048576 < wrap64 ((n : Int) + (m : Int))) = true := decide_eq_true big
    go_enter Try.func4, Try.ntmps4
    go_wp2_with fail
    go_ret
    exact ⟨rfl, Below.refl _ _⟩
  have d1 : decide (1048576 < wrap64 ((n : Int) + (m : Int))) = false := decide_eq_false big
  have Y1 := hide h
  have Y2 := hide h'
  have BW : Hid (Below w.heap.size w w) := hide (Below.refl _ _)
  clear h h'
  go_enter Try.func4, Try.ntmps4
  go_wp2_with fail
  refine (drawHP a n c _ (unhide Y1)).mono ?_
  rintro e w1 ⟨a0, n0, c0, l, p, rfl, ar, hn, hb⟩
  replace Y2 := hide ((unhide Y2).later hb)
  replace BW := hide (below_on (unhide BW) hb)
  clear hb
  clear Y1 d1 big
  have AR := hide (ar)
  clear ar
  have al : Below w1.heap.size w1 (w1.alloc (.cells #[.int .i64 p.1, .int .i64 p.2] 31)) := ((Below.refl _ _).alloc (Nat.le_refl _) _)
  replace Y2 := hide ((unhide Y2).later al)
  replace AR := hide ((unhide AR).later al)
  replace BW := hide (below_on (unhide BW) al)
  clear al
  have Kp : Hid (BxP (w1.alloc (.cells #[.int .i64 p.1, .int .i64 p.2] 31)) (w1.heap.size) p.1 p.2) := hide ((BxP.new (w := w1) (x := p.1) (y := p.2) (t := 31)))
  have C1 := hide (fun w (k : ArP w a0 n0 c0 l) => HasPtI a0 n0 c0 l p w k (by omega))
  have C2 := hide (fun w (k : ArP w a0 n0 c0 l) => HasPtS a0 n0 c0 l p w k (by omega))
  have CF := hide (convex_facts l p)
  have C3 := hide (fun w (k : ArP w a0 n0 c0 l) => OnWayI a0 n0 c0 l p w k (by omega))
  have C4 := hide (fun w (k : ArP w a0 n0 c0 l) => WindingAtI a0 n0 c0 l p w k (by omega))
  have C5 := hide (fun w (k : ArP w a0 n0 c0 l) => IsConvexI a0 n0 c0 l w k (by omega))
  have C6 := hide (fun w (k : ArP w a0 n0 c0 l) => IsSimpleI a0 n0 c0 l w k (by omega))
  generalize hpV l p = hv at *
  generalize hpB l p = ok at *
  generalize ooV l p = ov at *
  generalize gWP l p = og at *
  generalize wnV l p = wv at *
  generalize offB l p = wb at *
  generalize cnV l = cv at *
  generalize wayB l = wy at *
  generalize isV l = sv at *
  have x1 : (ok != ok) = false := by simp
  have x2 : (hv != hv) = false := by simp
  go_upto_region 4 with fail
  generalize (w1.alloc (.cells #[.int .i64 p.1, .int .i64 p.2] 31)) = w2 at *
  have Kp_0 := (unhide Kp).c0
  have Kp_1 := (unhide Kp).c1
  go_wp2_with fail
  refine (unhide C1 _ (unhide AR)).mono ?_
  rintro e w3 ⟨rfl, hb⟩
  clear Kp_0 Kp_1
  replace Kp := hide ((unhide Kp).later hb)
  replace Y2 := hide ((unhide Y2).later hb)
  replace AR := hide ((unhide AR).later hb)
  replace BW := hide (below_on (unhide BW) hb)
  clear hb
  have Kp_0 := (unhide Kp).c0
  have Kp_1 := (unhide Kp).c1
  go_wp2_with fail
  refine (unhide C2 _ (unhide AR)).mono ?_
  rintro e w4 ⟨rfl, hb⟩
  clear Kp_0 Kp_1
  replace Kp := hide ((unhide Kp).later hb)
  replace Y2 := hide ((unhide Y2).later hb)
  replace AR := hide ((unhide AR).later hb)
  replace BW := hide (below_on (unhide BW) hb)
  clear hb
  clear C1 C2
  go_upto_if 63 with fail
  have FB0 : Hid (Below w4.heap.size w4 w4) := hide (Below.refl _ _)
  go_cut [] (fun wx => Hid (Below w4.heap.size w4 wx))
  case first => as_aux_lemma =>
    cases ok
    · skip
      go_wp2_with fail
      go_meet
      exact FB0
    · skip
      obtain ⟨rfl, rfl, HV, rfl, rfl, rfl⟩ := unhide CF rfl
      clear CF x1 x2
      have Kp_0 := (unhide Kp).c0
      have Kp_1 := (unhide Kp).c1
      go_wp2_with fail
      refine (unhide C3 _ (unhide AR)).mono ?_
      rintro e w5 ⟨rfl, hb⟩
      clear Kp_0 Kp_1
      replace Kp := hide ((unhide Kp).later hb)
      replace Y2 := hide ((unhide Y2).later hb)
      replace AR := hide ((unhide AR).later hb)
      replace BW := hide (below_on (unhide BW) hb)
      replace FB0 := hide (below_on (unhide FB0) hb)
      clear hb
      have Kp_0 := (unhide Kp).c0
      have Kp_1 := (unhide Kp).c1
      go_wp2_with fail
      refine (unhide C4 _ (unhide AR)).mono ?_
      rintro e w6 ⟨rfl, hb⟩
      clear Kp_0 Kp_1
      replace Kp := hide ((unhide Kp).later hb)
      replace Y2 := hide ((unhide Y2).later hb)
      replace AR := hide ((unhide AR).later hb)
      replace BW := hide (below_on (unhide BW) hb)
      replace FB0 := hide (below_on (unhide FB0) hb)
      clear hb
      go_wp2_with fail
      refine (unhide C5 _ (unhide AR)).mono ?_
      rintro e w7 ⟨rfl, hb⟩
      replace Kp := hide ((unhide Kp).later hb)
      replace Y2 := hide ((unhide Y2).later hb)
      replace AR := hide ((unhide AR).later hb)
      replace BW := hide (below_on (unhide BW) hb)
      replace FB0 := hide (below_on (unhide FB0) hb)
      clear hb
      go_wp2_with fail
      refine (unhide C6 _ (unhide AR)).mono ?_
      rintro e w8 ⟨rfl, hb⟩
      replace Kp := hide ((unhide Kp).later hb)
      replace Y2 := hide ((unhide Y2).later hb)
      replace AR := hide ((unhide AR).later hb)
      replace BW := hide (below_on (unhide BW) hb)
      replace FB0 := hide (below_on (unhide FB0) hb)
      clear hb
      clear Kp AR
      clear C3 C4 C5 C6
      cases ov
      · cases hv
        · have hw : (wv == 1) = false := by simpa using HV.symm
          clear HV
          go_wp2_with fail
          go_meet
          exact FB0
        · have hw : (wv == 1) = true := by simpa using HV.symm
          clear HV
          go_wp2_with fail
          go_meet
          exact FB0
      · cases hv
        · exact absurd HV (by simp)
        · clear HV
          go_wp2_with fail
          go_meet
          exact FB0
  case rest => as_aux_lemma =>
    obtain hcut := hcut
    obtain ⟨w9, hwc⟩ : ∃ x, x = wc := ⟨_, rfl⟩
    subst hwc
    have hb := unhide hcut
    clear hcut FB0
    replace Kp := hide ((unhide Kp).later hb)
    replace Y2 := hide ((unhide Y2).later hb)
    replace AR := hide ((unhide AR).later hb)
    replace BW := hide (below_on (unhide BW) hb)
    clear hb
    clear AR Kp
    clear CF x1 x2 hn C3 C4 C5 C6
    go_wp2_with fail
    refine (drawIC b m d _ (unhide Y2)).mono ?_
    rintro e w10 ⟨a6, n6, c6, l6, rfl, ar6, h6, hb⟩
    replace Y2 := hide ((unhide Y2).later hb)
    replace BW := hide (below_on (unhide BW) hb)
    clear hb
    have AR := hide (ar6)
    clear ar6
    have C1 := hide (fun w (k : ArP w a6 n6 c6 l6) => IsConvexI a6 n6 c6 l6 w k (by omega))
    have C2 := hide (fun w (k : ArP w a6 n6 c6 l6) => IsConvexS a6 n6 c6 l6 w k (by omega))
    generalize cnV l6 = iv at *
    generalize wayB l6 = ib at *
    have q1 : (iv != iv) = false := by simp
    have q2 : (ib != ib) = false := by simp
    go_wp2_with fail
    refine (unhide C1 _ (unhide AR)).mono ?_
    rintro e w11 ⟨rfl, hb⟩
    replace Y2 := hide ((unhide Y2).later hb)
    replace AR := hide ((unhide AR).later hb)
    replace BW := hide (below_on (unhide BW) hb)
    clear hb
    go_wp2_with fail
    refine (unhide C2 _ (unhide AR)).mono ?_
    rintro e w12 ⟨rfl, hb⟩
    replace Y2 := hide ((unhide Y2).later hb)
    replace AR := hide ((unhide AR).later hb)
    replace BW := hide (below_on (unhide BW) hb)
    clear hb
    clear AR
    clear C1 C2 h6
    go_wp2_with fail
    refine (drawLP b m d _ (unhide Y2)).mono ?_
    rintro e w13 ⟨u, v, rfl, hb⟩
    replace Y2 := hide ((unhide Y2).later hb)
    replace BW := hide (below_on (unhide BW) hb)
    clear hb
    clear Y2
    have al : Below w13.heap.size w13 ((w13.alloc (.cells #[.int .i64 u.1, .int .i64 u.2] 31)).alloc (.cells #[.int .i64 v.1, .int .i64 v.2] 31)) := (((Below.refl _ _).alloc (Nat.le_refl _) _).alloc (by simp) _)
    replace BW := hide (below_on (unhide BW) al)
    clear al
    have Ka : Hid (BxP ((w13.alloc (.cells #[.int .i64 u.1, .int .i64 u.2] 31)).alloc (.cells #[.int .i64 v.1, .int .i64 v.2] 31)) (w13.heap.size) u.1 u.2) := hide (((BxP.new (w := w13) (x := u.1) (y := u.2) (t := 31)).later ((Below.refl _ _).alloc (Nat.le_refl _) _)))
    have zz : (w13.alloc (.cells #[.int .i64 u.1, .int .i64 u.2] 31)).heap.size = w13.heap.size + 1 := by simp
    have Kb : Hid (BxP ((w13.alloc (.cells #[.int .i64 u.1, .int .i64 u.2] 31)).alloc (.cells #[.int .i64 v.1, .int .i64 v.2] 31)) (w13.heap.size + 1) v.1 v.2) := hide (zz ▸ (BxP.new (w := (w13.alloc (.cells #[.int .i64 u.1, .int .i64 u.2] 31))) (x := v.1) (y := v.2) (t := 31)))
    clear zz
    have C1 := hide (fun w => LessPtI u v w)
    have C2 := hide (fun w => LessPtS u v w)
    have C3 := hide (fun w => LessPtI v u w)
    have LF := hide (less_facts u v)
    generalize leV u v = l1 at *
    generalize leB u v = lb at *
    generalize leV v u = l2 at *
    generalize leB v u = lc at *
    have q3 : (l1 != l1) = false := by simp
    have q4 : (lb != lb) = false := by simp
    go_upto_region 19 with fail
    generalize ((w13.alloc (.cells #[.int .i64 u.1, .int .i64 u.2] 31)).alloc (.cells #[.int .i64 v.1, .int .i64 v.2] 31)) = w14 at *
    have Ka_0 := (unhide Ka).c0
    have Ka_1 := (unhide Ka).c1
    have Kb_0 := (unhide Kb).c0
    have Kb_1 := (unhide Kb).c1
    go_wp2_with fail
    refine (unhide C1 _).mono ?_
    rintro e w15 ⟨rfl, hb⟩
    clear Ka_0 Ka_1 Kb_0 Kb_1
    replace Ka := hide ((unhide Ka).later hb)
    replace Kb := hide ((unhide Kb).later hb)
    replace BW := hide (below_on (unhide BW) hb)
    clear hb
    have Ka_0 := (unhide Ka).c0
    have Ka_1 := (unhide Ka).c1
    have Kb_0 := (unhide Kb).c0
    have Kb_1 := (unhide Kb).c1
    go_wp2_with fail
    refine (unhide C2 _).mono ?_
    rintro e w16 ⟨rfl, hb⟩
    clear Ka_0 Ka_1 Kb_0 Kb_1
    replace Ka := hide ((unhide Ka).later hb)
    replace Kb := hide ((unhide Kb).later hb)
    replace BW := hide (below_on (unhide BW) hb)
    clear hb
    clear C1 C2
    cases lb
    · skip
      go_wp2_with fail
      go_ret
      exact ⟨rfl, unhide BW⟩
    · obtain ⟨rfl, f1, f2⟩ := unhide LF rfl
      clear LF q1 q2 q3 q4
      have Ka_0 := (unhide Ka).c0
      have Ka_1 := (unhide Ka).c1
      have Kb_0 := (unhide Kb).c0
      have Kb_1 := (unhide Kb).c1
      go_wp2_with fail
      refine (unhide C3 _).mono ?_
      rintro e w17 ⟨rfl, hb⟩
      clear Ka_0 Ka_1 Kb_0 Kb_1
      replace Ka := hide ((unhide Ka).later hb)
      replace Kb := hide ((unhide Kb).later hb)
      replace BW := hide (below_on (unhide BW) hb)
      clear hb
      clear C3
      cases l1
      · cases l2
        · obtain rfl : u = v := by simpa using f2
          have z1 : (u.1 == u.1) = true := by simp
          have z2 : (u.2 == u.2) = true := by simp
          clear f1 f2
          have Ka_0 := (unhide Ka).c0
          have Ka_1 := (unhide Ka).c1
          have Kb_0 := (unhide Kb).c0
          have Kb_1 := (unhide Kb).c1
          go_wp2_with fail
          go_ret
          exact ⟨rfl, unhide BW⟩
        · clear f1 f2
          go_wp2_with fail
          go_ret
          exact ⟨rfl, unhide BW⟩
      · cases l2
        · clear f1 f2
          go_wp2_with fail
          go_ret
          exact ⟨rfl, unhide BW⟩
        · exact absurd f1 (by decide)
end Go.Proofs.Ytgoiodhofbkkdaa

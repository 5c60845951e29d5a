/- The law FnProducts returns true. No condition. -/
import Derived.Deep.Light
import Derived.Test.YtagnhgefdcckoaaPackC7
namespace Go.Proofs.Ytagnhgefdcckoaa
open Go.RowKit
set_option linter.unusedVariables false
set_option maxRecDepth 100000
set_option linter.unusedSimpArgs false

set_option maxHeartbeats 16000000 in
theorem prod_walk (a a' : Option Addr) (n m c c' : Nat) (w : World) (h : ArY w a n) (h' : ArY w a' m) :
    Calls Try.prog 3 #[.slice a n c, .slice a' m c'] w fun e w' => e = .returned (.bool true) ∧ Below w.heap.size w w' := by
  by_cases big : 1048576 < wrap64 ((n : Int) + (m : Int))
  · have d1 : decide (1048576 < wrap64 ((n : Int) + (m : Int))) = true := decide_eq_true big
    go_enter Try.func3, Try.ntmps3
    go_wp2_with fail
    go_ret
    exact ⟨rfl, Below.refl _ _⟩
  have d1 : decide (1048576 < wrap64 ((n : Int) + (m : Int))) = false := decide_eq_false big
  have Y1 := hide h
  have Y2 := hide h'
  have BW : Hid (Below w.heap.size w w) := hide (Below.refl _ _)
  clear h h'
  go_enter Try.func3, Try.ntmps3
  go_wp2_with fail
  refine (drawMul a n c _ (unhide Y1)).mono ?_
  rintro e w1 ⟨ba, bb, da, db, rfl, aa, ab, oa, ob, la, lb, hb⟩
  replace Y2 := hide ((unhide Y2).later hb)
  replace BW := hide (below_on (unhide BW) hb)
  clear hb
  clear oa ob Y1
  have Aa := hide (aa)
  have Ab := hide (ab)
  clear aa ab
  have al : Below w1.heap.size w1 ((w1.alloc (.cells #[.bool ba.g, .slice ba.a ba.n ba.c] 25)).alloc (.cells #[.bool bb.g, .slice bb.a bb.n bb.c] 25)) := ((Below.refl _ _).alloc (Nat.le_refl _) _).alloc (by simp) _
  replace Y2 := hide ((unhide Y2).later al)
  replace Aa := hide ((unhide Aa).later al)
  replace Ab := hide ((unhide Ab).later al)
  replace BW := hide (below_on (unhide BW) al)
  clear al
  have Ka : Hid (BxN ((w1.alloc (.cells #[.bool ba.g, .slice ba.a ba.n ba.c] 25)).alloc (.cells #[.bool bb.g, .slice bb.a bb.n bb.c] 25)) w1.heap.size ba) := hide ((BxN.new (b := ba)).later ((Below.refl _ _).alloc (Nat.le_refl _) _))
  have Kb : Hid (BxN ((w1.alloc (.cells #[.bool ba.g, .slice ba.a ba.n ba.c] 25)).alloc (.cells #[.bool bb.g, .slice bb.a bb.n bb.c] 25)) (w1.heap.size + 1) bb) := hide (BxN.new2 (b := bb))
  have Ka_0 := (unhide Ka).c0
  have Ka_1 := (unhide Ka).c1
  have Kb_0 := (unhide Kb).c0
  have Kb_1 := (unhide Kb).c1
  go_wp2_with fail
  refine (mulR_I ba bb da db _ (unhide Aa) (unhide Ab)).mono ?_
  rintro e w2 ⟨bp, dp, ok, rfl, hb, aa, an⟩
  clear Ka_0 Ka_1 Kb_0 Kb_1
  replace Ka := hide ((unhide Ka).later hb)
  replace Kb := hide ((unhide Kb).later hb)
  replace Y2 := hide ((unhide Y2).later hb)
  replace Aa := hide ((unhide Aa).later hb)
  replace Ab := hide ((unhide Ab).later hb)
  replace BW := hide (below_on (unhide BW) hb)
  clear hb
  have NP := hide an
  clear an
  have Ap := hide (aa)
  clear aa
  have al : Below w2.heap.size w2 (w2.alloc (.cells #[.bool bp.g, .slice bp.a bp.n bp.c] 25)) := (Below.refl _ _).alloc (Nat.le_refl _) _
  replace Ka := hide ((unhide Ka).later al)
  replace Kb := hide ((unhide Kb).later al)
  replace Y2 := hide ((unhide Y2).later al)
  replace Aa := hide ((unhide Aa).later al)
  replace Ab := hide ((unhide Ab).later al)
  replace Ap := hide ((unhide Ap).later al)
  replace BW := hide (below_on (unhide BW) al)
  clear al
  have Kp : Hid (BxN (w2.alloc (.cells #[.bool bp.g, .slice bp.a bp.n bp.c] 25)) w2.heap.size bp) := hide BxN.new
  have Ka_0 := (unhide Ka).c0
  have Ka_1 := (unhide Ka).c1
  have Kb_0 := (unhide Kb).c0
  have Kb_1 := (unhide Kb).c1
  go_wp2_with fail
  refine (mulR_S ba bb da db _ (unhide Aa) (unhide Ab)).mono ?_
  rintro e w3 ⟨bw, dw, ok1, rfl, hb, aa, an⟩
  clear Ka_0 Ka_1 Kb_0 Kb_1
  replace Ka := hide ((unhide Ka).later hb)
  replace Kb := hide ((unhide Kb).later hb)
  replace Kp := hide ((unhide Kp).later hb)
  replace Y2 := hide ((unhide Y2).later hb)
  replace Aa := hide ((unhide Aa).later hb)
  replace Ab := hide ((unhide Ab).later hb)
  replace Ap := hide ((unhide Ap).later hb)
  replace BW := hide (below_on (unhide BW) hb)
  clear hb
  obtain ⟨ed, eo⟩ := Ans.sameD (unhide NP) an
  subst ed eo
  clear an
  have Aw := hide (aa)
  clear aa
  have al : Below w3.heap.size w3 (w3.alloc (.cells #[.bool bw.g, .slice bw.a bw.n bw.c] 25)) := (Below.refl _ _).alloc (Nat.le_refl _) _
  replace Ka := hide ((unhide Ka).later al)
  replace Kb := hide ((unhide Kb).later al)
  replace Kp := hide ((unhide Kp).later al)
  replace Y2 := hide ((unhide Y2).later al)
  replace Aa := hide ((unhide Aa).later al)
  replace Ab := hide ((unhide Ab).later al)
  replace Ap := hide ((unhide Ap).later al)
  replace Aw := hide ((unhide Aw).later al)
  replace BW := hide (below_on (unhide BW) al)
  clear al
  have Kw : Hid (BxN (w3.alloc (.cells #[.bool bw.g, .slice bw.a bw.n bw.c] 25)) w3.heap.size bw) := hide BxN.new
  have Ka_0 := (unhide Ka).c0
  have Ka_1 := (unhide Ka).c1
  have Kb_0 := (unhide Kb).c0
  have Kb_1 := (unhide Kb).c1
  go_wp2_with fail
  refine (halR_I ba bb da db _ (unhide Aa) (unhide Ab)).mono ?_
  rintro e w4 ⟨bh, dh, ok2, rfl, hb, aa, an⟩
  clear Ka_0 Ka_1 Kb_0 Kb_1
  replace Ka := hide ((unhide Ka).later hb)
  replace Kb := hide ((unhide Kb).later hb)
  replace Kp := hide ((unhide Kp).later hb)
  replace Kw := hide ((unhide Kw).later hb)
  replace Y2 := hide ((unhide Y2).later hb)
  replace Aa := hide ((unhide Aa).later hb)
  replace Ab := hide ((unhide Ab).later hb)
  replace Ap := hide ((unhide Ap).later hb)
  replace Aw := hide ((unhide Aw).later hb)
  replace BW := hide (below_on (unhide BW) hb)
  clear hb
  obtain ⟨ed, eo⟩ := Ans.sameD (unhide NP) an
  subst ed eo
  clear an
  have Ah := hide (aa)
  clear aa
  have al : Below w4.heap.size w4 (w4.alloc (.cells #[.bool bh.g, .slice bh.a bh.n bh.c] 25)) := (Below.refl _ _).alloc (Nat.le_refl _) _
  replace Ka := hide ((unhide Ka).later al)
  replace Kb := hide ((unhide Kb).later al)
  replace Kp := hide ((unhide Kp).later al)
  replace Kw := hide ((unhide Kw).later al)
  replace Y2 := hide ((unhide Y2).later al)
  replace Aa := hide ((unhide Aa).later al)
  replace Ab := hide ((unhide Ab).later al)
  replace Ap := hide ((unhide Ap).later al)
  replace Aw := hide ((unhide Aw).later al)
  replace Ah := hide ((unhide Ah).later al)
  replace BW := hide (below_on (unhide BW) al)
  clear al
  have Kh : Hid (BxN (w4.alloc (.cells #[.bool bh.g, .slice bh.a bh.n bh.c] 25)) w4.heap.size bh) := hide BxN.new
  have Ka_0 := (unhide Ka).c0
  have Ka_1 := (unhide Ka).c1
  have Kb_0 := (unhide Kb).c0
  have Kb_1 := (unhide Kb).c1
  go_wp2_with fail
  refine (halR_S ba bb da db _ (unhide Aa) (unhide Ab)).mono ?_
  rintro e w5 ⟨bv, dv, ok3, rfl, hb, aa, an⟩
  clear Ka_0 Ka_1 Kb_0 Kb_1
  replace Ka := hide ((unhide Ka).later hb)
  replace Kb := hide ((unhide Kb).later hb)
  replace Kp := hide ((unhide Kp).later hb)
  replace Kw := hide ((unhide Kw).later hb)
  replace Kh := hide ((unhide Kh).later hb)
  replace Y2 := hide ((unhide Y2).later hb)
  replace Aa := hide ((unhide Aa).later hb)
  replace Ab := hide ((unhide Ab).later hb)
  replace Ap := hide ((unhide Ap).later hb)
  replace Aw := hide ((unhide Aw).later hb)
  replace Ah := hide ((unhide Ah).later hb)
  replace BW := hide (below_on (unhide BW) hb)
  clear hb
  obtain ⟨ed, eo⟩ := Ans.sameD (unhide NP) an
  subst ed eo
  clear an
  have Av := hide (aa)
  clear aa
  have al : Below w5.heap.size w5 (w5.alloc (.cells #[.bool bv.g, .slice bv.a bv.n bv.c] 25)) := (Below.refl _ _).alloc (Nat.le_refl _) _
  replace Ka := hide ((unhide Ka).later al)
  replace Kb := hide ((unhide Kb).later al)
  replace Kp := hide ((unhide Kp).later al)
  replace Kw := hide ((unhide Kw).later al)
  replace Kh := hide ((unhide Kh).later al)
  replace Y2 := hide ((unhide Y2).later al)
  replace Aa := hide ((unhide Aa).later al)
  replace Ab := hide ((unhide Ab).later al)
  replace Ap := hide ((unhide Ap).later al)
  replace Aw := hide ((unhide Aw).later al)
  replace Ah := hide ((unhide Ah).later al)
  replace Av := hide ((unhide Av).later al)
  replace BW := hide (below_on (unhide BW) al)
  clear al
  have Kv : Hid (BxN (w5.alloc (.cells #[.bool bv.g, .slice bv.a bv.n bv.c] 25)) w5.heap.size bv) := hide BxN.new
  have Ka_0 := (unhide Ka).c0
  have Ka_1 := (unhide Ka).c1
  have Kb_0 := (unhide Kb).c0
  have Kb_1 := (unhide Kb).c1
  go_wp2_with fail
  refine (DivI_r ba bb da db _ (unhide Aa) (unhide Ab)).mono ?_
  rintro e w6 ⟨vq, dq, okq, rfl, hb, aq, ar, an⟩
  clear Ka_0 Ka_1 Kb_0 Kb_1
  replace Ka := hide ((unhide Ka).later hb)
  replace Kb := hide ((unhide Kb).later hb)
  replace Kp := hide ((unhide Kp).later hb)
  replace Kw := hide ((unhide Kw).later hb)
  replace Kh := hide ((unhide Kh).later hb)
  replace Kv := hide ((unhide Kv).later hb)
  replace Y2 := hide ((unhide Y2).later hb)
  replace Aa := hide ((unhide Aa).later hb)
  replace Ab := hide ((unhide Ab).later hb)
  replace Ap := hide ((unhide Ap).later hb)
  replace Aw := hide ((unhide Aw).later hb)
  replace Ah := hide ((unhide Ah).later hb)
  replace Av := hide ((unhide Av).later hb)
  replace BW := hide (below_on (unhide BW) hb)
  clear hb
  have NQ := hide an
  clear an
  have Aq := hide (aq)
  have Ar := hide (ar)
  clear aq ar
  have al : Below w6.heap.size w6 ((w6.alloc (.cells #[.bool vq.num.g, .slice vq.num.a vq.num.n vq.num.c] 25)).alloc (.cells #[.bool vq.den.g, .slice vq.den.a vq.den.n vq.den.c] 25)) := ((Below.refl _ _).alloc (Nat.le_refl _) _).alloc (by simp) _
  replace Ka := hide ((unhide Ka).later al)
  replace Kb := hide ((unhide Kb).later al)
  replace Kp := hide ((unhide Kp).later al)
  replace Kw := hide ((unhide Kw).later al)
  replace Kh := hide ((unhide Kh).later al)
  replace Kv := hide ((unhide Kv).later al)
  replace Y2 := hide ((unhide Y2).later al)
  replace Aa := hide ((unhide Aa).later al)
  replace Ab := hide ((unhide Ab).later al)
  replace Ap := hide ((unhide Ap).later al)
  replace Aw := hide ((unhide Aw).later al)
  replace Ah := hide ((unhide Ah).later al)
  replace Av := hide ((unhide Av).later al)
  replace Aq := hide ((unhide Aq).later al)
  replace Ar := hide ((unhide Ar).later al)
  replace BW := hide (below_on (unhide BW) al)
  clear al
  have Kq : Hid (BxN ((w6.alloc (.cells #[.bool vq.num.g, .slice vq.num.a vq.num.n vq.num.c] 25)).alloc (.cells #[.bool vq.den.g, .slice vq.den.a vq.den.n vq.den.c] 25)) w6.heap.size vq.num) := hide ((BxN.new (b := vq.num)).later ((Below.refl _ _).alloc (Nat.le_refl _) _))
  have Kr : Hid (BxN ((w6.alloc (.cells #[.bool vq.num.g, .slice vq.num.a vq.num.n vq.num.c] 25)).alloc (.cells #[.bool vq.den.g, .slice vq.den.a vq.den.n vq.den.c] 25)) (w6.heap.size + 1) vq.den) := hide (BxN.new2 (b := vq.den))
  have Ka_0 := (unhide Ka).c0
  have Ka_1 := (unhide Ka).c1
  have Kb_0 := (unhide Kb).c0
  have Kb_1 := (unhide Kb).c1
  go_wp2_with fail
  refine (DivS_a ba bb da db _ (unhide Aa) (unhide Ab)).mono ?_
  rintro e w7 ⟨vs, ds, oks, rfl, hb, os, an⟩
  clear Ka_0 Ka_1 Kb_0 Kb_1
  replace Ka := hide ((unhide Ka).later hb)
  replace Kb := hide ((unhide Kb).later hb)
  replace Kp := hide ((unhide Kp).later hb)
  replace Kw := hide ((unhide Kw).later hb)
  replace Kh := hide ((unhide Kh).later hb)
  replace Kv := hide ((unhide Kv).later hb)
  replace Kq := hide ((unhide Kq).later hb)
  replace Kr := hide ((unhide Kr).later hb)
  replace Y2 := hide ((unhide Y2).later hb)
  replace Aa := hide ((unhide Aa).later hb)
  replace Ab := hide ((unhide Ab).later hb)
  replace Ap := hide ((unhide Ap).later hb)
  replace Aw := hide ((unhide Aw).later hb)
  replace Ah := hide ((unhide Ah).later hb)
  replace Av := hide ((unhide Av).later hb)
  replace Aq := hide ((unhide Aq).later hb)
  replace Ar := hide ((unhide Ar).later hb)
  replace BW := hide (below_on (unhide BW) hb)
  clear hb
  obtain ⟨ed, eo⟩ := (unhide NQ).same an
  subst ed eo
  clear an
  have Ss := hide ((AllOwn.one (os.own (vs.num, dq.num) (by simp))).sl)
  have St := hide ((AllOwn.one (os.own (vs.den, dq.den) (by simp))).sl)
  clear os
  have al : Below w7.heap.size w7 ((w7.alloc (.cells #[.bool vs.num.g, .slice vs.num.a vs.num.n vs.num.c] 25)).alloc (.cells #[.bool vs.den.g, .slice vs.den.a vs.den.n vs.den.c] 25)) := ((Below.refl _ _).alloc (Nat.le_refl _) _).alloc (by simp) _
  replace Ka := hide ((unhide Ka).later al)
  replace Kb := hide ((unhide Kb).later al)
  replace Kp := hide ((unhide Kp).later al)
  replace Kw := hide ((unhide Kw).later al)
  replace Kh := hide ((unhide Kh).later al)
  replace Kv := hide ((unhide Kv).later al)
  replace Kq := hide ((unhide Kq).later al)
  replace Kr := hide ((unhide Kr).later al)
  replace Y2 := hide ((unhide Y2).later al)
  replace Aa := hide ((unhide Aa).later al)
  replace Ab := hide ((unhide Ab).later al)
  replace Ap := hide ((unhide Ap).later al)
  replace Aw := hide ((unhide Aw).later al)
  replace Ah := hide ((unhide Ah).later al)
  replace Av := hide ((unhide Av).later al)
  replace Aq := hide ((unhide Aq).later al)
  replace Ar := hide ((unhide Ar).later al)
  replace Ss := hide ((unhide Ss).later al)
  replace St := hide ((unhide St).later al)
  replace BW := hide (below_on (unhide BW) al)
  clear al
  have Ks : Hid (BxN ((w7.alloc (.cells #[.bool vs.num.g, .slice vs.num.a vs.num.n vs.num.c] 25)).alloc (.cells #[.bool vs.den.g, .slice vs.den.a vs.den.n vs.den.c] 25)) w7.heap.size vs.num) := hide ((BxN.new (b := vs.num)).later ((Below.refl _ _).alloc (Nat.le_refl _) _))
  have Kt : Hid (BxN ((w7.alloc (.cells #[.bool vs.num.g, .slice vs.num.a vs.num.n vs.num.c] 25)).alloc (.cells #[.bool vs.den.g, .slice vs.den.a vs.den.n vs.den.c] 25)) (w7.heap.size + 1) vs.den) := hide (BxN.new2 (b := vs.den))
  have Ka_0 := (unhide Ka).c0
  have Ka_1 := (unhide Ka).c1
  have Kb_0 := (unhide Kb).c0
  have Kb_1 := (unhide Kb).c1
  go_wp2_with fail
  refine (gcdR_I ba bb da db _ (unhide Aa) (unhide Ab)).mono ?_
  rintro e w8 ⟨bg, dg, okg, rfl, hb, aa, an⟩
  clear Ka_0 Ka_1 Kb_0 Kb_1
  replace Ka := hide ((unhide Ka).later hb)
  replace Kb := hide ((unhide Kb).later hb)
  replace Kp := hide ((unhide Kp).later hb)
  replace Kw := hide ((unhide Kw).later hb)
  replace Kh := hide ((unhide Kh).later hb)
  replace Kv := hide ((unhide Kv).later hb)
  replace Kq := hide ((unhide Kq).later hb)
  replace Kr := hide ((unhide Kr).later hb)
  replace Ks := hide ((unhide Ks).later hb)
  replace Kt := hide ((unhide Kt).later hb)
  replace Y2 := hide ((unhide Y2).later hb)
  replace Aa := hide ((unhide Aa).later hb)
  replace Ab := hide ((unhide Ab).later hb)
  replace Ap := hide ((unhide Ap).later hb)
  replace Aw := hide ((unhide Aw).later hb)
  replace Ah := hide ((unhide Ah).later hb)
  replace Av := hide ((unhide Av).later hb)
  replace Aq := hide ((unhide Aq).later hb)
  replace Ar := hide ((unhide Ar).later hb)
  replace Ss := hide ((unhide Ss).later hb)
  replace St := hide ((unhide St).later hb)
  replace BW := hide (below_on (unhide BW) hb)
  clear hb
  have NG := hide an
  clear an
  have Ag := hide (aa)
  clear aa
  have al : Below w8.heap.size w8 (w8.alloc (.cells #[.bool bg.g, .slice bg.a bg.n bg.c] 25)) := (Below.refl _ _).alloc (Nat.le_refl _) _
  replace Ka := hide ((unhide Ka).later al)
  replace Kb := hide ((unhide Kb).later al)
  replace Kp := hide ((unhide Kp).later al)
  replace Kw := hide ((unhide Kw).later al)
  replace Kh := hide ((unhide Kh).later al)
  replace Kv := hide ((unhide Kv).later al)
  replace Kq := hide ((unhide Kq).later al)
  replace Kr := hide ((unhide Kr).later al)
  replace Ks := hide ((unhide Ks).later al)
  replace Kt := hide ((unhide Kt).later al)
  replace Y2 := hide ((unhide Y2).later al)
  replace Aa := hide ((unhide Aa).later al)
  replace Ab := hide ((unhide Ab).later al)
  replace Ap := hide ((unhide Ap).later al)
  replace Aw := hide ((unhide Aw).later al)
  replace Ah := hide ((unhide Ah).later al)
  replace Av := hide ((unhide Av).later al)
  replace Aq := hide ((unhide Aq).later al)
  replace Ar := hide ((unhide Ar).later al)
  replace Ss := hide ((unhide Ss).later al)
  replace St := hide ((unhide St).later al)
  replace Ag := hide ((unhide Ag).later al)
  replace BW := hide (below_on (unhide BW) al)
  clear al
  have Kg : Hid (BxN (w8.alloc (.cells #[.bool bg.g, .slice bg.a bg.n bg.c] 25)) w8.heap.size bg) := hide BxN.new
  have Ka_0 := (unhide Ka).c0
  have Ka_1 := (unhide Ka).c1
  have Kb_0 := (unhide Kb).c0
  have Kb_1 := (unhide Kb).c1
  go_wp2_with fail
  refine (gcdR_S ba bb da db _ (unhide Aa) (unhide Ab)).mono ?_
  rintro e w9 ⟨be, de, oke, rfl, hb, aa, an⟩
  clear Ka_0 Ka_1 Kb_0 Kb_1
  replace Ka := hide ((unhide Ka).later hb)
  replace Kb := hide ((unhide Kb).later hb)
  replace Kp := hide ((unhide Kp).later hb)
  replace Kw := hide ((unhide Kw).later hb)
  replace Kh := hide ((unhide Kh).later hb)
  replace Kv := hide ((unhide Kv).later hb)
  replace Kq := hide ((unhide Kq).later hb)
  replace Kr := hide ((unhide Kr).later hb)
  replace Ks := hide ((unhide Ks).later hb)
  replace Kt := hide ((unhide Kt).later hb)
  replace Kg := hide ((unhide Kg).later hb)
  replace Y2 := hide ((unhide Y2).later hb)
  replace Aa := hide ((unhide Aa).later hb)
  replace Ab := hide ((unhide Ab).later hb)
  replace Ap := hide ((unhide Ap).later hb)
  replace Aw := hide ((unhide Aw).later hb)
  replace Ah := hide ((unhide Ah).later hb)
  replace Av := hide ((unhide Av).later hb)
  replace Aq := hide ((unhide Aq).later hb)
  replace Ar := hide ((unhide Ar).later hb)
  replace Ss := hide ((unhide Ss).later hb)
  replace St := hide ((unhide St).later hb)
  replace Ag := hide ((unhide Ag).later hb)
  replace BW := hide (below_on (unhide BW) hb)
  clear hb
  obtain ⟨ed, eo⟩ := Ans.sameD (unhide NG) an
  subst ed eo
  clear an
  have Ae := hide (aa)
  clear aa
  have al : Below w9.heap.size w9 (w9.alloc (.cells #[.bool be.g, .slice be.a be.n be.c] 25)) := (Below.refl _ _).alloc (Nat.le_refl _) _
  replace Ka := hide ((unhide Ka).later al)
  replace Kb := hide ((unhide Kb).later al)
  replace Kp := hide ((unhide Kp).later al)
  replace Kw := hide ((unhide Kw).later al)
  replace Kh := hide ((unhide Kh).later al)
  replace Kv := hide ((unhide Kv).later al)
  replace Kq := hide ((unhide Kq).later al)
  replace Kr := hide ((unhide Kr).later al)
  replace Ks := hide ((unhide Ks).later al)
  replace Kt := hide ((unhide Kt).later al)
  replace Kg := hide ((unhide Kg).later al)
  replace Y2 := hide ((unhide Y2).later al)
  replace Aa := hide ((unhide Aa).later al)
  replace Ab := hide ((unhide Ab).later al)
  replace Ap := hide ((unhide Ap).later al)
  replace Aw := hide ((unhide Aw).later al)
  replace Ah := hide ((unhide Ah).later al)
  replace Av := hide ((unhide Av).later al)
  replace Aq := hide ((unhide Aq).later al)
  replace Ar := hide ((unhide Ar).later al)
  replace Ss := hide ((unhide Ss).later al)
  replace St := hide ((unhide St).later al)
  replace Ag := hide ((unhide Ag).later al)
  replace Ae := hide ((unhide Ae).later al)
  replace BW := hide (below_on (unhide BW) al)
  clear al
  have Ke : Hid (BxN (w9.alloc (.cells #[.bool be.g, .slice be.a be.n be.c] 25)) w9.heap.size be) := hide BxN.new
  have x1 : (ok != ok) = false := by simp
  have x2 : (okq != okq) = false := by simp
  have x3 : (okg != okg) = false := by simp
  have LP := hide ((unhide NP).len)
  have LQ := hide ((unhide NQ).lens)
  have LG := hide ((unhide NG).len)
  have Kp_0 := (unhide Kp).c0
  have Kp_1 := (unhide Kp).c1
  have Kw_0 := (unhide Kw).c0
  have Kw_1 := (unhide Kw).c1
  go_wp2_with fail
  refine (sameB bp bw dp _ ((unhide Ap).sl) ((unhide Aw).sl) (by have := unhide LP; omega)).mono ?_
  rintro e w10 ⟨rfl, hb⟩
  clear Kp_0 Kp_1 Kw_0 Kw_1
  replace Ka := hide ((unhide Ka).later hb)
  replace Kb := hide ((unhide Kb).later hb)
  replace Kp := hide ((unhide Kp).later hb)
  replace Kw := hide ((unhide Kw).later hb)
  replace Kh := hide ((unhide Kh).later hb)
  replace Kv := hide ((unhide Kv).later hb)
  replace Kq := hide ((unhide Kq).later hb)
  replace Kr := hide ((unhide Kr).later hb)
  replace Ks := hide ((unhide Ks).later hb)
  replace Kt := hide ((unhide Kt).later hb)
  replace Kg := hide ((unhide Kg).later hb)
  replace Ke := hide ((unhide Ke).later hb)
  replace Y2 := hide ((unhide Y2).later hb)
  replace Aa := hide ((unhide Aa).later hb)
  replace Ab := hide ((unhide Ab).later hb)
  replace Ap := hide ((unhide Ap).later hb)
  replace Aw := hide ((unhide Aw).later hb)
  replace Ah := hide ((unhide Ah).later hb)
  replace Av := hide ((unhide Av).later hb)
  replace Aq := hide ((unhide Aq).later hb)
  replace Ar := hide ((unhide Ar).later hb)
  replace Ss := hide ((unhide Ss).later hb)
  replace St := hide ((unhide St).later hb)
  replace Ag := hide ((unhide Ag).later hb)
  replace Ae := hide ((unhide Ae).later hb)
  replace BW := hide (below_on (unhide BW) hb)
  clear hb
  have Kh_0 := (unhide Kh).c0
  have Kh_1 := (unhide Kh).c1
  have Kv_0 := (unhide Kv).c0
  have Kv_1 := (unhide Kv).c1
  go_wp2_with fail
  refine (sameB bh bv dp _ ((unhide Ah).sl) ((unhide Av).sl) (by have := unhide LP; omega)).mono ?_
  rintro e w11 ⟨rfl, hb⟩
  clear Kh_0 Kh_1 Kv_0 Kv_1
  replace Ka := hide ((unhide Ka).later hb)
  replace Kb := hide ((unhide Kb).later hb)
  replace Kp := hide ((unhide Kp).later hb)
  replace Kw := hide ((unhide Kw).later hb)
  replace Kh := hide ((unhide Kh).later hb)
  replace Kv := hide ((unhide Kv).later hb)
  replace Kq := hide ((unhide Kq).later hb)
  replace Kr := hide ((unhide Kr).later hb)
  replace Ks := hide ((unhide Ks).later hb)
  replace Kt := hide ((unhide Kt).later hb)
  replace Kg := hide ((unhide Kg).later hb)
  replace Ke := hide ((unhide Ke).later hb)
  replace Y2 := hide ((unhide Y2).later hb)
  replace Aa := hide ((unhide Aa).later hb)
  replace Ab := hide ((unhide Ab).later hb)
  replace Ap := hide ((unhide Ap).later hb)
  replace Aw := hide ((unhide Aw).later hb)
  replace Ah := hide ((unhide Ah).later hb)
  replace Av := hide ((unhide Av).later hb)
  replace Aq := hide ((unhide Aq).later hb)
  replace Ar := hide ((unhide Ar).later hb)
  replace Ss := hide ((unhide Ss).later hb)
  replace St := hide ((unhide St).later hb)
  replace Ag := hide ((unhide Ag).later hb)
  replace Ae := hide ((unhide Ae).later hb)
  replace BW := hide (below_on (unhide BW) hb)
  clear hb
  have Kh_0 := (unhide Kh).c0
  have Kh_1 := (unhide Kh).c1
  have Kp_0 := (unhide Kp).c0
  have Kp_1 := (unhide Kp).c1
  go_wp2_with fail
  refine (sameB bh bp dp _ ((unhide Ah).sl) ((unhide Ap).sl) (by have := unhide LP; omega)).mono ?_
  rintro e w12 ⟨rfl, hb⟩
  clear Kh_0 Kh_1 Kp_0 Kp_1
  replace Ka := hide ((unhide Ka).later hb)
  replace Kb := hide ((unhide Kb).later hb)
  replace Kp := hide ((unhide Kp).later hb)
  replace Kw := hide ((unhide Kw).later hb)
  replace Kh := hide ((unhide Kh).later hb)
  replace Kv := hide ((unhide Kv).later hb)
  replace Kq := hide ((unhide Kq).later hb)
  replace Kr := hide ((unhide Kr).later hb)
  replace Ks := hide ((unhide Ks).later hb)
  replace Kt := hide ((unhide Kt).later hb)
  replace Kg := hide ((unhide Kg).later hb)
  replace Ke := hide ((unhide Ke).later hb)
  replace Y2 := hide ((unhide Y2).later hb)
  replace Aa := hide ((unhide Aa).later hb)
  replace Ab := hide ((unhide Ab).later hb)
  replace Ap := hide ((unhide Ap).later hb)
  replace Aw := hide ((unhide Aw).later hb)
  replace Ah := hide ((unhide Ah).later hb)
  replace Av := hide ((unhide Av).later hb)
  replace Aq := hide ((unhide Aq).later hb)
  replace Ar := hide ((unhide Ar).later hb)
  replace Ss := hide ((unhide Ss).later hb)
  replace St := hide ((unhide St).later hb)
  replace Ag := hide ((unhide Ag).later hb)
  replace Ae := hide ((unhide Ae).later hb)
  replace BW := hide (below_on (unhide BW) hb)
  clear hb
  have Kq_0 := (unhide Kq).c0
  have Kq_1 := (unhide Kq).c1
  have Ks_0 := (unhide Ks).c0
  have Ks_1 := (unhide Ks).c1
  go_wp2_with fail
  refine (sameB vq.num vs.num dq.num _ ((unhide Aq).sl) (unhide Ss) (by have := unhide LQ; omega)).mono ?_
  rintro e w13 ⟨rfl, hb⟩
  clear Kq_0 Kq_1 Ks_0 Ks_1
  replace Ka := hide ((unhide Ka).later hb)
  replace Kb := hide ((unhide Kb).later hb)
  replace Kp := hide ((unhide Kp).later hb)
  replace Kw := hide ((unhide Kw).later hb)
  replace Kh := hide ((unhide Kh).later hb)
  replace Kv := hide ((unhide Kv).later hb)
  replace Kq := hide ((unhide Kq).later hb)
  replace Kr := hide ((unhide Kr).later hb)
  replace Ks := hide ((unhide Ks).later hb)
  replace Kt := hide ((unhide Kt).later hb)
  replace Kg := hide ((unhide Kg).later hb)
  replace Ke := hide ((unhide Ke).later hb)
  replace Y2 := hide ((unhide Y2).later hb)
  replace Aa := hide ((unhide Aa).later hb)
  replace Ab := hide ((unhide Ab).later hb)
  replace Ap := hide ((unhide Ap).later hb)
  replace Aw := hide ((unhide Aw).later hb)
  replace Ah := hide ((unhide Ah).later hb)
  replace Av := hide ((unhide Av).later hb)
  replace Aq := hide ((unhide Aq).later hb)
  replace Ar := hide ((unhide Ar).later hb)
  replace Ss := hide ((unhide Ss).later hb)
  replace St := hide ((unhide St).later hb)
  replace Ag := hide ((unhide Ag).later hb)
  replace Ae := hide ((unhide Ae).later hb)
  replace BW := hide (below_on (unhide BW) hb)
  clear hb
  have Kr_0 := (unhide Kr).c0
  have Kr_1 := (unhide Kr).c1
  have Kt_0 := (unhide Kt).c0
  have Kt_1 := (unhide Kt).c1
  go_wp2_with fail
  refine (sameB vq.den vs.den dq.den _ ((unhide Ar).sl) (unhide St) (by have := unhide LQ; omega)).mono ?_
  rintro e w14 ⟨rfl, hb⟩
  clear Kr_0 Kr_1 Kt_0 Kt_1
  replace Ka := hide ((unhide Ka).later hb)
  replace Kb := hide ((unhide Kb).later hb)
  replace Kp := hide ((unhide Kp).later hb)
  replace Kw := hide ((unhide Kw).later hb)
  replace Kh := hide ((unhide Kh).later hb)
  replace Kv := hide ((unhide Kv).later hb)
  replace Kq := hide ((unhide Kq).later hb)
  replace Kr := hide ((unhide Kr).later hb)
  replace Ks := hide ((unhide Ks).later hb)
  replace Kt := hide ((unhide Kt).later hb)
  replace Kg := hide ((unhide Kg).later hb)
  replace Ke := hide ((unhide Ke).later hb)
  replace Y2 := hide ((unhide Y2).later hb)
  replace Aa := hide ((unhide Aa).later hb)
  replace Ab := hide ((unhide Ab).later hb)
  replace Ap := hide ((unhide Ap).later hb)
  replace Aw := hide ((unhide Aw).later hb)
  replace Ah := hide ((unhide Ah).later hb)
  replace Av := hide ((unhide Av).later hb)
  replace Aq := hide ((unhide Aq).later hb)
  replace Ar := hide ((unhide Ar).later hb)
  replace Ss := hide ((unhide Ss).later hb)
  replace St := hide ((unhide St).later hb)
  replace Ag := hide ((unhide Ag).later hb)
  replace Ae := hide ((unhide Ae).later hb)
  replace BW := hide (below_on (unhide BW) hb)
  clear hb
  have Kg_0 := (unhide Kg).c0
  have Kg_1 := (unhide Kg).c1
  have Ke_0 := (unhide Ke).c0
  have Ke_1 := (unhide Ke).c1
  go_wp2_with fail
  refine (sameB bg be dg _ ((unhide Ag).sl) ((unhide Ae).sl) (by have := unhide LG; omega)).mono ?_
  rintro e w15 ⟨rfl, hb⟩
  clear Kg_0 Kg_1 Ke_0 Ke_1
  replace Ka := hide ((unhide Ka).later hb)
  replace Kb := hide ((unhide Kb).later hb)
  replace Kp := hide ((unhide Kp).later hb)
  replace Kw := hide ((unhide Kw).later hb)
  replace Kh := hide ((unhide Kh).later hb)
  replace Kv := hide ((unhide Kv).later hb)
  replace Kq := hide ((unhide Kq).later hb)
  replace Kr := hide ((unhide Kr).later hb)
  replace Ks := hide ((unhide Ks).later hb)
  replace Kt := hide ((unhide Kt).later hb)
  replace Kg := hide ((unhide Kg).later hb)
  replace Ke := hide ((unhide Ke).later hb)
  replace Y2 := hide ((unhide Y2).later hb)
  replace Aa := hide ((unhide Aa).later hb)
  replace Ab := hide ((unhide Ab).later hb)
  replace Ap := hide ((unhide Ap).later hb)
  replace Aw := hide ((unhide Aw).later hb)
  replace Ah := hide ((unhide Ah).later hb)
  replace Av := hide ((unhide Av).later hb)
  replace Aq := hide ((unhide Aq).later hb)
  replace Ar := hide ((unhide Ar).later hb)
  replace Ss := hide ((unhide Ss).later hb)
  replace St := hide ((unhide St).later hb)
  replace Ag := hide ((unhide Ag).later hb)
  replace Ae := hide ((unhide Ae).later hb)
  replace BW := hide (below_on (unhide BW) hb)
  clear hb
  clear Kw Kh Kv Ks Kt Ke Aw Ah Av Ss St Ae
  go_upto_region 14 with fail
  have FB0 : Hid (Below w15.heap.size w15 w15) := hide (Below.refl _ _)
  go_cut [172] (fun v wx => ∃ z : Bool, v = .bool z ∧ (z = true → ok = true ∧ db.xs.length ≠ 0) ∧ Hid (Below w15.heap.size w15 wx))
  case first => as_aux_lemma =>
    cases ok
    · skip
      go_wp2_with fail
      go_meet
      exact ⟨false, rfl, fun e => (by cases e), FB0⟩
    · skip
      have Kb_0 := (unhide Kb).c0
      have Kb_1 := (unhide Kb).c1
      go_wp2_with fail
      refine (zeroB bb _).mono ?_
      rintro e w16 ⟨z, rfl, hb, hz⟩
      clear Kb_0 Kb_1
      replace Ka := hide ((unhide Ka).later hb)
      replace Kb := hide ((unhide Kb).later hb)
      replace Kp := hide ((unhide Kp).later hb)
      replace Kq := hide ((unhide Kq).later hb)
      replace Kr := hide ((unhide Kr).later hb)
      replace Kg := hide ((unhide Kg).later hb)
      replace Y2 := hide ((unhide Y2).later hb)
      replace Aa := hide ((unhide Aa).later hb)
      replace Ab := hide ((unhide Ab).later hb)
      replace Ap := hide ((unhide Ap).later hb)
      replace Aq := hide ((unhide Aq).later hb)
      replace Ar := hide ((unhide Ar).later hb)
      replace Ag := hide ((unhide Ag).later hb)
      replace BW := hide (below_on (unhide BW) hb)
      replace FB0 := hide (below_on (unhide FB0) hb)
      clear hb
      have HL := hide (unhide Ab).n_len
      dsimp only
      cases z
      · have N0 := hide (show db.xs.length ≠ 0 from fun e => by cases hz.2 ((unhide HL).symm.trans e))
        clear hz
        go_wp2_with fail
        go_meet
        exact ⟨true, rfl, fun _ => ⟨rfl, unhide N0⟩, FB0⟩
      · clear hz
        go_wp2_with fail
        go_meet
        exact ⟨false, rfl, fun e => (by cases e), FB0⟩
  case rest => as_aux_lemma =>
    obtain ⟨zz, rfl, hzz, hcut⟩ := hcut
    obtain ⟨w17, hwc⟩ : ∃ x, x = wc := ⟨_, rfl⟩
    subst hwc
    have hb := unhide hcut
    clear hcut FB0
    replace Ka := hide ((unhide Ka).later hb)
    replace Kb := hide ((unhide Kb).later hb)
    replace Kp := hide ((unhide Kp).later hb)
    replace Kq := hide ((unhide Kq).later hb)
    replace Kr := hide ((unhide Kr).later hb)
    replace Kg := hide ((unhide Kg).later hb)
    replace Y2 := hide ((unhide Y2).later hb)
    replace Aa := hide ((unhide Aa).later hb)
    replace Ab := hide ((unhide Ab).later hb)
    replace Ap := hide ((unhide Ap).later hb)
    replace Aq := hide ((unhide Aq).later hb)
    replace Ar := hide ((unhide Ar).later hb)
    replace Ag := hide ((unhide Ag).later hb)
    replace BW := hide (below_on (unhide BW) hb)
    clear hb
    have HZ := hide hzz
    clear hzz
    go_upto_if 172 with fail
    have FB1 : Hid (Below w17.heap.size w17 w17) := hide (Below.refl _ _)
    go_cut [] (fun wx => Hid (Below w17.heap.size w17 wx))
    case first => as_aux_lemma =>
      cases zz
      · skip
        go_wp2_with fail
        go_meet
        exact FB1
      · skip
        obtain ⟨rfl, h0⟩ := unhide HZ rfl
        have Kp_0 := (unhide Kp).c0
        have Kp_1 := (unhide Kp).c1
        have Kb_0 := (unhide Kb).c0
        have Kb_1 := (unhide Kb).c1
        go_wp2_with fail
        refine (DivI_r bp bb dp db _ (unhide Ap) (unhide Ab)).mono ?_
        rintro e w18 ⟨vb, dk, okb, rfl, hb, ak, ay, an⟩
        clear Kp_0 Kp_1 Kb_0 Kb_1
        replace Ka := hide ((unhide Ka).later hb)
        replace Kb := hide ((unhide Kb).later hb)
        replace Kp := hide ((unhide Kp).later hb)
        replace Kq := hide ((unhide Kq).later hb)
        replace Kr := hide ((unhide Kr).later hb)
        replace Kg := hide ((unhide Kg).later hb)
        replace Y2 := hide ((unhide Y2).later hb)
        replace Aa := hide ((unhide Aa).later hb)
        replace Ab := hide ((unhide Ab).later hb)
        replace Ap := hide ((unhide Ap).later hb)
        replace Aq := hide ((unhide Aq).later hb)
        replace Ar := hide ((unhide Ar).later hb)
        replace Ag := hide ((unhide Ag).later hb)
        replace BW := hide (below_on (unhide BW) hb)
        replace FB1 := hide (below_on (unhide FB1) hb)
        clear hb
        obtain ⟨e1, e2, e3⟩ := pd_back (unhide NP) h0 an
        subst e1
        rw [e2] at ak
        have Z1 : Hid (vb.den.n = 0) := hide (by have := ay.n_len; rw [e3] at this; exact this.symm)
        clear an e2 e3 h0 ay
        have Ax := hide (ak)
        clear ak
        have al : Below w18.heap.size w18 ((w18.alloc (.cells #[.bool vb.num.g, .slice vb.num.a vb.num.n vb.num.c] 25)).alloc (.cells #[.bool vb.den.g, .slice vb.den.a vb.den.n vb.den.c] 25)) := ((Below.refl _ _).alloc (Nat.le_refl _) _).alloc (by simp) _
        replace Ka := hide ((unhide Ka).later al)
        replace Kb := hide ((unhide Kb).later al)
        replace Kp := hide ((unhide Kp).later al)
        replace Kq := hide ((unhide Kq).later al)
        replace Kr := hide ((unhide Kr).later al)
        replace Kg := hide ((unhide Kg).later al)
        replace Y2 := hide ((unhide Y2).later al)
        replace Aa := hide ((unhide Aa).later al)
        replace Ab := hide ((unhide Ab).later al)
        replace Ap := hide ((unhide Ap).later al)
        replace Aq := hide ((unhide Aq).later al)
        replace Ar := hide ((unhide Ar).later al)
        replace Ag := hide ((unhide Ag).later al)
        replace Ax := hide ((unhide Ax).later al)
        replace BW := hide (below_on (unhide BW) al)
        replace FB1 := hide (below_on (unhide FB1) al)
        clear al
        have Kx : Hid (BxN ((w18.alloc (.cells #[.bool vb.num.g, .slice vb.num.a vb.num.n vb.num.c] 25)).alloc (.cells #[.bool vb.den.g, .slice vb.den.a vb.den.n vb.den.c] 25)) w18.heap.size vb.num) := hide ((BxN.new (b := vb.num)).later ((Below.refl _ _).alloc (Nat.le_refl _) _))
        have Ky : Hid (BxN ((w18.alloc (.cells #[.bool vb.num.g, .slice vb.num.a vb.num.n vb.num.c] 25)).alloc (.cells #[.bool vb.den.g, .slice vb.den.a vb.den.n vb.den.c] 25)) (w18.heap.size + 1) vb.den) := hide (BxN.new2 (b := vb.den))
        have Kx_0 := (unhide Kx).c0
        have Kx_1 := (unhide Kx).c1
        have Ka_0 := (unhide Ka).c0
        have Ka_1 := (unhide Ka).c1
        go_wp2_with fail
        refine (sameB vb.num ba da _ ((unhide Ax).sl) ((unhide Aa).sl) (by have := la; omega)).mono ?_
        rintro e w19 ⟨rfl, hb⟩
        clear Kx_0 Kx_1 Ka_0 Ka_1
        replace Ka := hide ((unhide Ka).later hb)
        replace Kb := hide ((unhide Kb).later hb)
        replace Kp := hide ((unhide Kp).later hb)
        replace Kq := hide ((unhide Kq).later hb)
        replace Kr := hide ((unhide Kr).later hb)
        replace Kg := hide ((unhide Kg).later hb)
        replace Kx := hide ((unhide Kx).later hb)
        replace Ky := hide ((unhide Ky).later hb)
        replace Y2 := hide ((unhide Y2).later hb)
        replace Aa := hide ((unhide Aa).later hb)
        replace Ab := hide ((unhide Ab).later hb)
        replace Ap := hide ((unhide Ap).later hb)
        replace Aq := hide ((unhide Aq).later hb)
        replace Ar := hide ((unhide Ar).later hb)
        replace Ag := hide ((unhide Ag).later hb)
        replace Ax := hide ((unhide Ax).later hb)
        replace BW := hide (below_on (unhide BW) hb)
        replace FB1 := hide (below_on (unhide FB1) hb)
        clear hb
        have Ky_0 := (unhide Ky).c0
        have Ky_1 := (unhide Ky).c1
        go_wp2_with fail
        refine (zeroB vb.den _).mono ?_
        rintro e w20 ⟨z, rfl, hb, hz⟩
        clear Ky_0 Ky_1
        replace Ka := hide ((unhide Ka).later hb)
        replace Kb := hide ((unhide Kb).later hb)
        replace Kp := hide ((unhide Kp).later hb)
        replace Kq := hide ((unhide Kq).later hb)
        replace Kr := hide ((unhide Kr).later hb)
        replace Kg := hide ((unhide Kg).later hb)
        replace Kx := hide ((unhide Kx).later hb)
        replace Ky := hide ((unhide Ky).later hb)
        replace Y2 := hide ((unhide Y2).later hb)
        replace Aa := hide ((unhide Aa).later hb)
        replace Ab := hide ((unhide Ab).later hb)
        replace Ap := hide ((unhide Ap).later hb)
        replace Aq := hide ((unhide Aq).later hb)
        replace Ar := hide ((unhide Ar).later hb)
        replace Ag := hide ((unhide Ag).later hb)
        replace Ax := hide ((unhide Ax).later hb)
        replace BW := hide (below_on (unhide BW) hb)
        replace FB1 := hide (below_on (unhide FB1) hb)
        clear hb
        obtain rfl : z = true := hz.2 (unhide Z1)
        clear hz
        go_wp2_with fail
        go_meet
        exact FB1
    case rest => as_aux_lemma =>
      obtain hcut := hcut
      obtain ⟨w21, hwc⟩ : ∃ x, x = wc := ⟨_, rfl⟩
      subst hwc
      have hb := unhide hcut
      clear hcut FB1
      replace Ka := hide ((unhide Ka).later hb)
      replace Kb := hide ((unhide Kb).later hb)
      replace Kp := hide ((unhide Kp).later hb)
      replace Kq := hide ((unhide Kq).later hb)
      replace Kr := hide ((unhide Kr).later hb)
      replace Kg := hide ((unhide Kg).later hb)
      replace Y2 := hide ((unhide Y2).later hb)
      replace Aa := hide ((unhide Aa).later hb)
      replace Ab := hide ((unhide Ab).later hb)
      replace Ap := hide ((unhide Ap).later hb)
      replace Aq := hide ((unhide Aq).later hb)
      replace Ar := hide ((unhide Ar).later hb)
      replace Ag := hide ((unhide Ag).later hb)
      replace BW := hide (below_on (unhide BW) hb)
      clear hb
      clear HZ
      go_upto_if 193 with fail
      have FB2 : Hid (Below w21.heap.size w21 w21) := hide (Below.refl _ _)
      go_cut [] (fun wx => Hid (Below w21.heap.size w21 wx))
      case first => as_aux_lemma =>
        cases okq
        · skip
          go_wp2_with fail
          go_meet
          exact FB2
        · skip
          have Kq_0 := (unhide Kq).c0
          have Kq_1 := (unhide Kq).c1
          have Kb_0 := (unhide Kb).c0
          have Kb_1 := (unhide Kb).c1
          go_wp2_with fail
          refine (mulR_I vq.num bb dq.num db _ (unhide Aq) (unhide Ab)).mono ?_
          rintro e w22 ⟨bm, dm, okm, rfl, hb, aa, an⟩
          clear Kq_0 Kq_1 Kb_0 Kb_1
          replace Ka := hide ((unhide Ka).later hb)
          replace Kb := hide ((unhide Kb).later hb)
          replace Kp := hide ((unhide Kp).later hb)
          replace Kq := hide ((unhide Kq).later hb)
          replace Kr := hide ((unhide Kr).later hb)
          replace Kg := hide ((unhide Kg).later hb)
          replace Y2 := hide ((unhide Y2).later hb)
          replace Aa := hide ((unhide Aa).later hb)
          replace Ab := hide ((unhide Ab).later hb)
          replace Ap := hide ((unhide Ap).later hb)
          replace Aq := hide ((unhide Aq).later hb)
          replace Ar := hide ((unhide Ar).later hb)
          replace Ag := hide ((unhide Ag).later hb)
          replace BW := hide (below_on (unhide BW) hb)
          replace FB2 := hide (below_on (unhide FB2) hb)
          clear hb
          have NM := hide an
          clear an
          have Am := hide (aa)
          clear aa
          have al : Below w22.heap.size w22 (w22.alloc (.cells #[.bool bm.g, .slice bm.a bm.n bm.c] 25)) := (Below.refl _ _).alloc (Nat.le_refl _) _
          replace Ka := hide ((unhide Ka).later al)
          replace Kb := hide ((unhide Kb).later al)
          replace Kp := hide ((unhide Kp).later al)
          replace Kq := hide ((unhide Kq).later al)
          replace Kr := hide ((unhide Kr).later al)
          replace Kg := hide ((unhide Kg).later al)
          replace Y2 := hide ((unhide Y2).later al)
          replace Aa := hide ((unhide Aa).later al)
          replace Ab := hide ((unhide Ab).later al)
          replace Ap := hide ((unhide Ap).later al)
          replace Aq := hide ((unhide Aq).later al)
          replace Ar := hide ((unhide Ar).later al)
          replace Ag := hide ((unhide Ag).later al)
          replace Am := hide ((unhide Am).later al)
          replace BW := hide (below_on (unhide BW) al)
          replace FB2 := hide (below_on (unhide FB2) al)
          clear al
          have Km : Hid (BxN (w22.alloc (.cells #[.bool bm.g, .slice bm.a bm.n bm.c] 25)) w22.heap.size bm) := hide BxN.new
          have Km_0 := (unhide Km).c0
          have Km_1 := (unhide Km).c1
          have Kr_0 := (unhide Kr).c0
          have Kr_1 := (unhide Kr).c1
          go_wp2_with fail
          refine (addR_I bm vq.den dm dq.den _ (unhide Am) (unhide Ar)).mono ?_
          rintro e w23 ⟨bs, ds, oks, rfl, hb, aa, an⟩
          clear Km_0 Km_1 Kr_0 Kr_1
          replace Ka := hide ((unhide Ka).later hb)
          replace Kb := hide ((unhide Kb).later hb)
          replace Kp := hide ((unhide Kp).later hb)
          replace Kq := hide ((unhide Kq).later hb)
          replace Kr := hide ((unhide Kr).later hb)
          replace Kg := hide ((unhide Kg).later hb)
          replace Km := hide ((unhide Km).later hb)
          replace Y2 := hide ((unhide Y2).later hb)
          replace Aa := hide ((unhide Aa).later hb)
          replace Ab := hide ((unhide Ab).later hb)
          replace Ap := hide ((unhide Ap).later hb)
          replace Aq := hide ((unhide Aq).later hb)
          replace Ar := hide ((unhide Ar).later hb)
          replace Ag := hide ((unhide Ag).later hb)
          replace Am := hide ((unhide Am).later hb)
          replace BW := hide (below_on (unhide BW) hb)
          replace FB2 := hide (below_on (unhide FB2) hb)
          clear hb
          obtain ⟨e1, e2, e3⟩ := pd_two (unhide NQ) (unhide NM) an
          subst e1 e2
          rw [e3] at aa
          clear an e3 NM
          have Az := hide (aa)
          clear aa
          have al : Below w23.heap.size w23 (w23.alloc (.cells #[.bool bs.g, .slice bs.a bs.n bs.c] 25)) := (Below.refl _ _).alloc (Nat.le_refl _) _
          replace Ka := hide ((unhide Ka).later al)
          replace Kb := hide ((unhide Kb).later al)
          replace Kp := hide ((unhide Kp).later al)
          replace Kq := hide ((unhide Kq).later al)
          replace Kr := hide ((unhide Kr).later al)
          replace Kg := hide ((unhide Kg).later al)
          replace Km := hide ((unhide Km).later al)
          replace Y2 := hide ((unhide Y2).later al)
          replace Aa := hide ((unhide Aa).later al)
          replace Ab := hide ((unhide Ab).later al)
          replace Ap := hide ((unhide Ap).later al)
          replace Aq := hide ((unhide Aq).later al)
          replace Ar := hide ((unhide Ar).later al)
          replace Ag := hide ((unhide Ag).later al)
          replace Am := hide ((unhide Am).later al)
          replace Az := hide ((unhide Az).later al)
          replace BW := hide (below_on (unhide BW) al)
          replace FB2 := hide (below_on (unhide FB2) al)
          clear al
          have Kz : Hid (BxN (w23.alloc (.cells #[.bool bs.g, .slice bs.a bs.n bs.c] 25)) w23.heap.size bs) := hide BxN.new
          have Kr_0 := (unhide Kr).c0
          have Kr_1 := (unhide Kr).c1
          have qb := ((unhide Kb).later ((Below.refl _ _).alloc (Nat.le_refl _) (.cells #[.bool false, .slice vq.den.a vq.den.n vq.den.c] 25))).c1
          have al : Below (w23.alloc (.cells #[.bool bs.g, .slice bs.a bs.n bs.c] 25)).heap.size (w23.alloc (.cells #[.bool bs.g, .slice bs.a bs.n bs.c] 25)) (((w23.alloc (.cells #[.bool bs.g, .slice bs.a bs.n bs.c] 25)).alloc (.cells #[.bool false, .slice vq.den.a vq.den.n vq.den.c] 25)).alloc (.cells #[.bool false, .slice bb.a bb.n bb.c] 25)) := ((Below.refl _ _).alloc (Nat.le_refl _) _).alloc (by simp) _
          replace Ka := hide ((unhide Ka).later al)
          replace Kb := hide ((unhide Kb).later al)
          replace Kp := hide ((unhide Kp).later al)
          replace Kq := hide ((unhide Kq).later al)
          replace Kr := hide ((unhide Kr).later al)
          replace Kg := hide ((unhide Kg).later al)
          replace Km := hide ((unhide Km).later al)
          replace Kz := hide ((unhide Kz).later al)
          replace Y2 := hide ((unhide Y2).later al)
          replace Aa := hide ((unhide Aa).later al)
          replace Ab := hide ((unhide Ab).later al)
          replace Ap := hide ((unhide Ap).later al)
          replace Aq := hide ((unhide Aq).later al)
          replace Ar := hide ((unhide Ar).later al)
          replace Ag := hide ((unhide Ag).later al)
          replace Am := hide ((unhide Am).later al)
          replace Az := hide ((unhide Az).later al)
          replace BW := hide (below_on (unhide BW) al)
          replace FB2 := hide (below_on (unhide FB2) al)
          clear al
          have Ku : Hid (BxN (((w23.alloc (.cells #[.bool bs.g, .slice bs.a bs.n bs.c] 25)).alloc (.cells #[.bool false, .slice vq.den.a vq.den.n vq.den.c] 25)).alloc (.cells #[.bool false, .slice bb.a bb.n bb.c] 25)) (w23.alloc (.cells #[.bool bs.g, .slice bs.a bs.n bs.c] 25)).heap.size (⟨false, vq.den.a, vq.den.n, vq.den.c⟩ : BV)) := hide ((BxN.new (b := (⟨false, vq.den.a, vq.den.n, vq.den.c⟩ : BV))).later ((Below.refl _ _).alloc (Nat.le_refl _) _))
          have Kv : Hid (BxN (((w23.alloc (.cells #[.bool bs.g, .slice bs.a bs.n bs.c] 25)).alloc (.cells #[.bool false, .slice vq.den.a vq.den.n vq.den.c] 25)).alloc (.cells #[.bool false, .slice bb.a bb.n bb.c] 25)) ((w23.alloc (.cells #[.bool bs.g, .slice bs.a bs.n bs.c] 25)).heap.size + 1) (⟨false, bb.a, bb.n, bb.c⟩ : BV)) := hide (BxN.new2 (b := (⟨false, bb.a, bb.n, bb.c⟩ : BV)))
          have u0 : (((w23.alloc (.cells #[.bool bs.g, .slice bs.a bs.n bs.c] 25)).alloc (.cells #[.bool false, .slice vq.den.a vq.den.n vq.den.c] 25)).alloc (.cells #[.bool false, .slice bb.a bb.n bb.c] 25)).cell? ⟨_, 0, none⟩ = some (.bool false) := (unhide Ku).c0
          have u1 : (((w23.alloc (.cells #[.bool bs.g, .slice bs.a bs.n bs.c] 25)).alloc (.cells #[.bool false, .slice vq.den.a vq.den.n vq.den.c] 25)).alloc (.cells #[.bool false, .slice bb.a bb.n bb.c] 25)).cell? ⟨_, 1, none⟩ = some (.slice vq.den.a vq.den.n vq.den.c) := (unhide Ku).c1
          have v0 : (((w23.alloc (.cells #[.bool bs.g, .slice bs.a bs.n bs.c] 25)).alloc (.cells #[.bool false, .slice vq.den.a vq.den.n vq.den.c] 25)).alloc (.cells #[.bool false, .slice bb.a bb.n bb.c] 25)).cell? ⟨_, 0, none⟩ = some (.bool false) := (unhide Kv).c0
          have v1 : (((w23.alloc (.cells #[.bool bs.g, .slice bs.a bs.n bs.c] 25)).alloc (.cells #[.bool false, .slice vq.den.a vq.den.n vq.den.c] 25)).alloc (.cells #[.bool false, .slice bb.a bb.n bb.c] 25)).cell? ⟨_, 1, none⟩ = some (.slice bb.a bb.n bb.c) := (unhide Kv).c1
          have szu : (w23.alloc (.cells #[.bool bs.g, .slice bs.a bs.n bs.c] 25)).heap.size = w23.heap.size + 1 := by simp
          rw [szu] at u0 u1 v0 v1
          clear szu
          go_wp2_with fail
          refine (cmpR_lt vq.den bb dq.den db _ (unhide Ar) (unhide Ab) (by have := unhide LQ; omega) (by omega) (pd_cmp (unhide NQ))).mono ?_
          rintro e w24 ⟨k, rfl, hb, hk⟩
          clear Kr_0 Kr_1
          replace Ka := hide ((unhide Ka).later hb)
          replace Kb := hide ((unhide Kb).later hb)
          replace Kp := hide ((unhide Kp).later hb)
          replace Kq := hide ((unhide Kq).later hb)
          replace Kr := hide ((unhide Kr).later hb)
          replace Kg := hide ((unhide Kg).later hb)
          replace Km := hide ((unhide Km).later hb)
          replace Kz := hide ((unhide Kz).later hb)
          replace Ku := hide ((unhide Ku).later hb)
          replace Kv := hide ((unhide Kv).later hb)
          replace Y2 := hide ((unhide Y2).later hb)
          replace Aa := hide ((unhide Aa).later hb)
          replace Ab := hide ((unhide Ab).later hb)
          replace Ap := hide ((unhide Ap).later hb)
          replace Aq := hide ((unhide Aq).later hb)
          replace Ar := hide ((unhide Ar).later hb)
          replace Ag := hide ((unhide Ag).later hb)
          replace Am := hide ((unhide Am).later hb)
          replace Az := hide ((unhide Az).later hb)
          replace BW := hide (below_on (unhide BW) hb)
          replace FB2 := hide (below_on (unhide FB2) hb)
          clear hb
          clear u0 u1 v0 v1 qb
          have hk0 : decide (0 ≤ k) = false := by simp; omega
          clear hk
          clear Ku Kv Km Am
          have Kz_0 := (unhide Kz).c0
          have Kz_1 := (unhide Kz).c1
          have Ka_0 := (unhide Ka).c0
          have Ka_1 := (unhide Ka).c1
          go_wp2_with fail
          refine (sameB bs ba da _ ((unhide Az).sl) ((unhide Aa).sl) (by have := la; omega)).mono ?_
          rintro e w25 ⟨rfl, hb⟩
          clear Kz_0 Kz_1 Ka_0 Ka_1
          replace Ka := hide ((unhide Ka).later hb)
          replace Kb := hide ((unhide Kb).later hb)
          replace Kp := hide ((unhide Kp).later hb)
          replace Kq := hide ((unhide Kq).later hb)
          replace Kr := hide ((unhide Kr).later hb)
          replace Kg := hide ((unhide Kg).later hb)
          replace Kz := hide ((unhide Kz).later hb)
          replace Y2 := hide ((unhide Y2).later hb)
          replace Aa := hide ((unhide Aa).later hb)
          replace Ab := hide ((unhide Ab).later hb)
          replace Ap := hide ((unhide Ap).later hb)
          replace Aq := hide ((unhide Aq).later hb)
          replace Ar := hide ((unhide Ar).later hb)
          replace Ag := hide ((unhide Ag).later hb)
          replace Az := hide ((unhide Az).later hb)
          replace BW := hide (below_on (unhide BW) hb)
          replace FB2 := hide (below_on (unhide FB2) hb)
          clear hb
          have SG := hide (show dq.den.xs.length ≠ 0 → vq.den.g = ba.g from fun h => by rw [(unhide Ar).head.sg, (unhide Aa).head.sg, pd_sign (unhide NQ) h])
          have Kr_0 := (unhide Kr).c0
          have Kr_1 := (unhide Kr).c1
          go_wp2_with fail
          refine (zeroB vq.den _).mono ?_
          rintro e w26 ⟨z, rfl, hb, hz⟩
          clear Kr_0 Kr_1
          replace Ka := hide ((unhide Ka).later hb)
          replace Kb := hide ((unhide Kb).later hb)
          replace Kp := hide ((unhide Kp).later hb)
          replace Kq := hide ((unhide Kq).later hb)
          replace Kr := hide ((unhide Kr).later hb)
          replace Kg := hide ((unhide Kg).later hb)
          replace Kz := hide ((unhide Kz).later hb)
          replace Y2 := hide ((unhide Y2).later hb)
          replace Aa := hide ((unhide Aa).later hb)
          replace Ab := hide ((unhide Ab).later hb)
          replace Ap := hide ((unhide Ap).later hb)
          replace Aq := hide ((unhide Aq).later hb)
          replace Ar := hide ((unhide Ar).later hb)
          replace Ag := hide ((unhide Ag).later hb)
          replace Az := hide ((unhide Az).later hb)
          replace BW := hide (below_on (unhide BW) hb)
          replace FB2 := hide (below_on (unhide FB2) hb)
          clear hb
          have HL := hide (unhide Ar).n_len
          dsimp only
          cases z
          · have sg := unhide SG (fun e => by cases hz.2 ((unhide HL).symm.trans e))
            clear hz SG
            have Kr_0 := (unhide Kr).c0
            have Kr_1 := (unhide Kr).c1
            have Ka_0 := (unhide Ka).c0
            have Ka_1 := (unhide Ka).c1
            rw [sg] at Kr_0
            clear sg
            have x9 : (ba.g != ba.g) = false := by simp
            go_wp2_with fail
            go_meet
            exact FB2
          · clear hz SG
            go_wp2_with fail
            go_meet
            exact FB2
      case rest => as_aux_lemma =>
        obtain hcut := hcut
        obtain ⟨w27, hwc⟩ : ∃ x, x = wc := ⟨_, rfl⟩
        subst hwc
        have hb := unhide hcut
        clear hcut FB2
        replace Ka := hide ((unhide Ka).later hb)
        replace Kb := hide ((unhide Kb).later hb)
        replace Kp := hide ((unhide Kp).later hb)
        replace Kq := hide ((unhide Kq).later hb)
        replace Kr := hide ((unhide Kr).later hb)
        replace Kg := hide ((unhide Kg).later hb)
        replace Y2 := hide ((unhide Y2).later hb)
        replace Aa := hide ((unhide Aa).later hb)
        replace Ab := hide ((unhide Ab).later hb)
        replace Ap := hide ((unhide Ap).later hb)
        replace Aq := hide ((unhide Aq).later hb)
        replace Ar := hide ((unhide Ar).later hb)
        replace Ag := hide ((unhide Ag).later hb)
        replace BW := hide (below_on (unhide BW) hb)
        clear hb
        clear Kp Kq Kr Ap Aq Ar
        go_upto_region 26 with fail
        have FB3 : Hid (Below w27.heap.size w27 w27) := hide (Below.refl _ _)
        go_cut [255] (fun v wx => ∃ z : Bool, v = .bool z ∧ (z = true → okg = true ∧ dg.xs.length ≠ 0) ∧ Hid (Below w27.heap.size w27 wx))
        case first => as_aux_lemma =>
          cases okg
          · skip
            go_wp2_with fail
            go_meet
            exact ⟨false, rfl, fun e => (by cases e), FB3⟩
          · skip
            have Kg_0 := (unhide Kg).c0
            have Kg_1 := (unhide Kg).c1
            go_wp2_with fail
            refine (zeroB bg _).mono ?_
            rintro e w28 ⟨z, rfl, hb, hz⟩
            clear Kg_0 Kg_1
            replace Ka := hide ((unhide Ka).later hb)
            replace Kb := hide ((unhide Kb).later hb)
            replace Kg := hide ((unhide Kg).later hb)
            replace Y2 := hide ((unhide Y2).later hb)
            replace Aa := hide ((unhide Aa).later hb)
            replace Ab := hide ((unhide Ab).later hb)
            replace Ag := hide ((unhide Ag).later hb)
            replace BW := hide (below_on (unhide BW) hb)
            replace FB3 := hide (below_on (unhide FB3) hb)
            clear hb
            have HL := hide (unhide Ag).n_len
            dsimp only
            cases z
            · have N0 := hide (show dg.xs.length ≠ 0 from fun e => by cases hz.2 ((unhide HL).symm.trans e))
              clear hz
              go_wp2_with fail
              go_meet
              exact ⟨true, rfl, fun _ => ⟨rfl, unhide N0⟩, FB3⟩
            · clear hz
              go_wp2_with fail
              go_meet
              exact ⟨false, rfl, fun e => (by cases e), FB3⟩
        case rest => as_aux_lemma =>
          obtain ⟨zz, rfl, hzz, hcut⟩ := hcut
          obtain ⟨w29, hwc⟩ : ∃ x, x = wc := ⟨_, rfl⟩
          subst hwc
          have hb := unhide hcut
          clear hcut FB3
          replace Ka := hide ((unhide Ka).later hb)
          replace Kb := hide ((unhide Kb).later hb)
          replace Kg := hide ((unhide Kg).later hb)
          replace Y2 := hide ((unhide Y2).later hb)
          replace Aa := hide ((unhide Aa).later hb)
          replace Ab := hide ((unhide Ab).later hb)
          replace Ag := hide ((unhide Ag).later hb)
          replace BW := hide (below_on (unhide BW) hb)
          clear hb
          have HZ := hide hzz
          clear hzz
          go_upto_if 255 with fail
          have FB4 : Hid (Below w29.heap.size w29 w29) := hide (Below.refl _ _)
          go_cut [] (fun wx => Hid (Below w29.heap.size w29 wx))
          case first => as_aux_lemma =>
            cases zz
            · skip
              go_wp2_with fail
              go_meet
              exact FB4
            · skip
              obtain ⟨rfl, h0⟩ := unhide HZ rfl
              have Ka_0 := (unhide Ka).c0
              have Ka_1 := (unhide Ka).c1
              have Kg_0 := (unhide Kg).c0
              have Kg_1 := (unhide Kg).c1
              go_wp2_with fail
              refine (DivI_r ba bg da dg _ (unhide Aa) (unhide Ag)).mono ?_
              rintro e w30 ⟨v1, t1, ok1, rfl, hb, ak, a1, an1⟩
              clear Ka_0 Ka_1 Kg_0 Kg_1
              replace Ka := hide ((unhide Ka).later hb)
              replace Kb := hide ((unhide Kb).later hb)
              replace Kg := hide ((unhide Kg).later hb)
              replace Y2 := hide ((unhide Y2).later hb)
              replace Aa := hide ((unhide Aa).later hb)
              replace Ab := hide ((unhide Ab).later hb)
              replace Ag := hide ((unhide Ag).later hb)
              replace BW := hide (below_on (unhide BW) hb)
              replace FB4 := hide (below_on (unhide FB4) hb)
              clear hb
              clear ak
              have A1 := hide (a1)
              have N1 := hide an1
              clear a1 an1
              have al : Below w30.heap.size w30 ((w30.alloc (.cells #[.bool v1.num.g, .slice v1.num.a v1.num.n v1.num.c] 25)).alloc (.cells #[.bool v1.den.g, .slice v1.den.a v1.den.n v1.den.c] 25)) := ((Below.refl _ _).alloc (Nat.le_refl _) _).alloc (by simp) _
              replace Ka := hide ((unhide Ka).later al)
              replace Kb := hide ((unhide Kb).later al)
              replace Kg := hide ((unhide Kg).later al)
              replace Y2 := hide ((unhide Y2).later al)
              replace Aa := hide ((unhide Aa).later al)
              replace Ab := hide ((unhide Ab).later al)
              replace Ag := hide ((unhide Ag).later al)
              replace A1 := hide ((unhide A1).later al)
              replace BW := hide (below_on (unhide BW) al)
              replace FB4 := hide (below_on (unhide FB4) al)
              clear al
              have K1 : Hid (BxN ((w30.alloc (.cells #[.bool v1.num.g, .slice v1.num.a v1.num.n v1.num.c] 25)).alloc (.cells #[.bool v1.den.g, .slice v1.den.a v1.den.n v1.den.c] 25)) w30.heap.size v1.num) := hide ((BxN.new (b := v1.num)).later ((Below.refl _ _).alloc (Nat.le_refl _) _))
              have K2 : Hid (BxN ((w30.alloc (.cells #[.bool v1.num.g, .slice v1.num.a v1.num.n v1.num.c] 25)).alloc (.cells #[.bool v1.den.g, .slice v1.den.a v1.den.n v1.den.c] 25)) (w30.heap.size + 1) v1.den) := hide (BxN.new2 (b := v1.den))
              have Kb_0 := (unhide Kb).c0
              have Kb_1 := (unhide Kb).c1
              have Kg_0 := (unhide Kg).c0
              have Kg_1 := (unhide Kg).c1
              go_wp2_with fail
              refine (DivI_r bb bg db dg _ (unhide Ab) (unhide Ag)).mono ?_
              rintro e w31 ⟨v2, t2, ok2, rfl, hb, ak, a2, an2⟩
              clear Kb_0 Kb_1 Kg_0 Kg_1
              replace Ka := hide ((unhide Ka).later hb)
              replace Kb := hide ((unhide Kb).later hb)
              replace Kg := hide ((unhide Kg).later hb)
              replace K1 := hide ((unhide K1).later hb)
              replace K2 := hide ((unhide K2).later hb)
              replace Y2 := hide ((unhide Y2).later hb)
              replace Aa := hide ((unhide Aa).later hb)
              replace Ab := hide ((unhide Ab).later hb)
              replace Ag := hide ((unhide Ag).later hb)
              replace A1 := hide ((unhide A1).later hb)
              replace BW := hide (below_on (unhide BW) hb)
              replace FB4 := hide (below_on (unhide FB4) hb)
              clear hb
              obtain ⟨⟨e1, e2⟩, ⟨e3, e4⟩, e5⟩ := pd_gcd (unhide NG) h0 (unhide N1) an2
              subst e1 e3
              have Z1 : Hid (v1.den.n = 0) := hide (by have := (unhide A1).n_len; rw [e2] at this; exact this.symm)
              have Z2 : Hid (v2.den.n = 0) := hide (by have := a2.n_len; rw [e4] at this; exact this.symm)
              have GF := hide ((unhide Ag).head.sg.trans e5)
              clear ak a2 an2 e2 e4 e5 h0 N1
              have al : Below w31.heap.size w31 ((w31.alloc (.cells #[.bool v2.num.g, .slice v2.num.a v2.num.n v2.num.c] 25)).alloc (.cells #[.bool v2.den.g, .slice v2.den.a v2.den.n v2.den.c] 25)) := ((Below.refl _ _).alloc (Nat.le_refl _) _).alloc (by simp) _
              replace Ka := hide ((unhide Ka).later al)
              replace Kb := hide ((unhide Kb).later al)
              replace Kg := hide ((unhide Kg).later al)
              replace K1 := hide ((unhide K1).later al)
              replace K2 := hide ((unhide K2).later al)
              replace Y2 := hide ((unhide Y2).later al)
              replace Aa := hide ((unhide Aa).later al)
              replace Ab := hide ((unhide Ab).later al)
              replace Ag := hide ((unhide Ag).later al)
              replace A1 := hide ((unhide A1).later al)
              replace BW := hide (below_on (unhide BW) al)
              replace FB4 := hide (below_on (unhide FB4) al)
              clear al
              have K3 : Hid (BxN ((w31.alloc (.cells #[.bool v2.num.g, .slice v2.num.a v2.num.n v2.num.c] 25)).alloc (.cells #[.bool v2.den.g, .slice v2.den.a v2.den.n v2.den.c] 25)) w31.heap.size v2.num) := hide ((BxN.new (b := v2.num)).later ((Below.refl _ _).alloc (Nat.le_refl _) _))
              have K4 : Hid (BxN ((w31.alloc (.cells #[.bool v2.num.g, .slice v2.num.a v2.num.n v2.num.c] 25)).alloc (.cells #[.bool v2.den.g, .slice v2.den.a v2.den.n v2.den.c] 25)) (w31.heap.size + 1) v2.den) := hide (BxN.new2 (b := v2.den))
              have K2_0 := (unhide K2).c0
              have K2_1 := (unhide K2).c1
              go_wp2_with fail
              refine (zeroB v1.den _).mono ?_
              rintro e w32 ⟨z, rfl, hb, hz⟩
              clear K2_0 K2_1
              replace Ka := hide ((unhide Ka).later hb)
              replace Kb := hide ((unhide Kb).later hb)
              replace Kg := hide ((unhide Kg).later hb)
              replace K1 := hide ((unhide K1).later hb)
              replace K2 := hide ((unhide K2).later hb)
              replace K3 := hide ((unhide K3).later hb)
              replace K4 := hide ((unhide K4).later hb)
              replace Y2 := hide ((unhide Y2).later hb)
              replace Aa := hide ((unhide Aa).later hb)
              replace Ab := hide ((unhide Ab).later hb)
              replace Ag := hide ((unhide Ag).later hb)
              replace A1 := hide ((unhide A1).later hb)
              replace BW := hide (below_on (unhide BW) hb)
              replace FB4 := hide (below_on (unhide FB4) hb)
              clear hb
              obtain rfl : z = true := hz.2 (unhide Z1)
              clear hz
              dsimp only
              have K4_0 := (unhide K4).c0
              have K4_1 := (unhide K4).c1
              go_wp2_with fail
              refine (zeroB v2.den _).mono ?_
              rintro e w33 ⟨z, rfl, hb, hz⟩
              clear K4_0 K4_1
              replace Ka := hide ((unhide Ka).later hb)
              replace Kb := hide ((unhide Kb).later hb)
              replace Kg := hide ((unhide Kg).later hb)
              replace K1 := hide ((unhide K1).later hb)
              replace K2 := hide ((unhide K2).later hb)
              replace K3 := hide ((unhide K3).later hb)
              replace K4 := hide ((unhide K4).later hb)
              replace Y2 := hide ((unhide Y2).later hb)
              replace Aa := hide ((unhide Aa).later hb)
              replace Ab := hide ((unhide Ab).later hb)
              replace Ag := hide ((unhide Ag).later hb)
              replace A1 := hide ((unhide A1).later hb)
              replace BW := hide (below_on (unhide BW) hb)
              replace FB4 := hide (below_on (unhide FB4) hb)
              clear hb
              obtain rfl : z = true := hz.2 (unhide Z2)
              clear hz
              dsimp only
              have gq := (unhide Kg).c0
              rw [unhide GF] at gq
              go_wp2_with fail
              go_meet
              exact FB4
          case rest => as_aux_lemma =>
            obtain hcut := hcut
            obtain ⟨w34, hwc⟩ : ∃ x, x = wc := ⟨_, rfl⟩
            subst hwc
            have hb := unhide hcut
            clear hcut FB4
            replace Ka := hide ((unhide Ka).later hb)
            replace Kb := hide ((unhide Kb).later hb)
            replace Kg := hide ((unhide Kg).later hb)
            replace Y2 := hide ((unhide Y2).later hb)
            replace Aa := hide ((unhide Aa).later hb)
            replace Ab := hide ((unhide Ab).later hb)
            replace Ag := hide ((unhide Ag).later hb)
            replace BW := hide (below_on (unhide BW) hb)
            clear hb
            clear HZ
            clear Ka Kb Kg Aa Ab Ag
            go_wp2_with fail
            refine (drawInt a' m c' _ (unhide Y2)).mono ?_
            rintro e w35 ⟨bi, di, rfl, ai, oi, li, hb⟩
            replace Y2 := hide ((unhide Y2).later hb)
            replace BW := hide (below_on (unhide BW) hb)
            clear hb
            have Ai := hide (ai)
            clear ai oi
            have al : Below w35.heap.size w35 (w35.alloc (.cells #[.bool bi.g, .slice bi.a bi.n bi.c] 25)) := (Below.refl _ _).alloc (Nat.le_refl _) _
            replace Y2 := hide ((unhide Y2).later al)
            replace Ai := hide ((unhide Ai).later al)
            replace BW := hide (below_on (unhide BW) al)
            clear al
            have Ki : Hid (BxN (w35.alloc (.cells #[.bool bi.g, .slice bi.a bi.n bi.c] 25)) w35.heap.size bi) := hide BxN.new
            have Ki_0 := (unhide Ki).c0
            have Ki_1 := (unhide Ki).c1
            go_wp2_with fail
            refine (intR_I bi di _ (unhide Ai) (by omega)).mono ?_
            rintro e w36 ⟨rfl, hb⟩
            clear Ki_0 Ki_1
            replace Ki := hide ((unhide Ki).later hb)
            replace Y2 := hide ((unhide Y2).later hb)
            replace Ai := hide ((unhide Ai).later hb)
            replace BW := hide (below_on (unhide BW) hb)
            clear hb
            have Ki_0 := (unhide Ki).c0
            have Ki_1 := (unhide Ki).c1
            go_wp2_with fail
            refine (intR_S bi di _ (unhide Ai) (by omega)).mono ?_
            rintro e w37 ⟨rfl, hb⟩
            clear Ki_0 Ki_1
            replace Ki := hide ((unhide Ki).later hb)
            replace Y2 := hide ((unhide Y2).later hb)
            replace Ai := hide ((unhide Ai).later hb)
            replace BW := hide (below_on (unhide BW) hb)
            clear hb
            generalize intV di.g di.xs = iv
            generalize intOk di.g di.xs = io
            have y1 : (io == io) = true := by simp
            have y2 : (iv == iv) = true := by simp
            go_wp2_with fail
            go_ret
            exact ⟨rfl, unhide BW⟩
end Go.Proofs.Ytagnhgefdcckoaa

/- The law FnFractions returns true. No condition but that strconv's table lies where it is laid. Written by mkfrw17.py. -/
import Derived.Deep.Light
import Derived.Test.YtdgonpbponnnaaaGreatDoorGc17
namespace Go.Proofs.YtdgonpbponnnaaaGreatDoor
open Go.RowKit
set_option linter.unusedVariables false
set_option maxRecDepth 100000
set_option linter.unusedSimpArgs false

set_option maxHeartbeats 16000000 in
theorem frc_walk (a a' : Option Addr) (n m c c' : Nat) (w : World) (h : ArY w a n) (h' : ArY w a' m) (ht : Tab15 w) :
    Calls Tryz.prog 3 #[.slice a n c, .slice a' m c'] w fun e w' => e = .returned (.bool true) ∧ Below w.heap.size w w' := by
  by_cases big : 1048576 < wrap64 ((n : Int) + (m : Int))
  · have d1 : decide (1048576 < wrap64 ((n : Int) + (m : Int))) = true := decide_eq_true big
    go_enter Tryz.func3, Tryz.ntmps3
    go_wp2_with fail
    go_ret
    exact ⟨rfl, Below.refl _ _⟩
  have d1 : decide (1048576 < wrap64 ((n : Int) + (m : Int))) = false := decide_eq_false big
  have Y1 := hide h
  have Y2 := hide h'
  have HT := hide ht
  have BW : Hid (Below w.heap.size w w) := hide (Below.refl _ _)
  clear h h' ht
  go_enter Tryz.func3, Tryz.ntmps3
  go_wp2_with fail
  refine (Aq.drawAQ a n c _ (unhide Y1)).mono ?_
  rintro e w1 ⟨va, vb, da, db, rfl, oa, ob, hb⟩
  replace Y2 := hide ((unhide Y2).later hb)
  replace HT := hide ((unhide HT).later hb)
  replace BW := hide (below_on (unhide BW) hb)
  clear hb
  clear Y1 big d1
  have Aa := hide (oa.ar)
  have Ab := hide (ob.ar)
  clear oa ob
  have al : Below w1.heap.size w1 ((w1.alloc (.cells #[.bool va.num.g, .slice va.num.a va.num.n va.num.c, .bool va.den.g, .slice va.den.a va.den.n va.den.c] 27)).alloc (.cells #[.bool vb.num.g, .slice vb.num.a vb.num.n vb.num.c, .bool vb.den.g, .slice vb.den.a vb.den.n vb.den.c] 27)) := ((Below.refl _ _).alloc (Nat.le_refl _) _).alloc (by simp) _
  replace Y2 := hide ((unhide Y2).later al)
  replace HT := hide ((unhide HT).later al)
  replace Aa := hide ((unhide Aa).later al)
  replace Ab := hide ((unhide Ab).later al)
  replace BW := hide (below_on (unhide BW) al)
  clear al
  have Ka : Hid (Aq.BxQ ((w1.alloc (.cells #[.bool va.num.g, .slice va.num.a va.num.n va.num.c, .bool va.den.g, .slice va.den.a va.den.n va.den.c] 27)).alloc (.cells #[.bool vb.num.g, .slice vb.num.a vb.num.n vb.num.c, .bool vb.den.g, .slice vb.den.a vb.den.n vb.den.c] 27)) w1.heap.size va) := hide ((Aq.BxQ.new (b := va)).later ((Below.refl _ _).alloc (Nat.le_refl _) _))
  have Kb : Hid (Aq.BxQ ((w1.alloc (.cells #[.bool va.num.g, .slice va.num.a va.num.n va.num.c, .bool va.den.g, .slice va.den.a va.den.n va.den.c] 27)).alloc (.cells #[.bool vb.num.g, .slice vb.num.a vb.num.n vb.num.c, .bool vb.den.g, .slice vb.den.a vb.den.n vb.den.c] 27)) (w1.heap.size + 1) vb) := hide (Aq.BxQ.new2 (b := vb))
  have Ka_0 := (unhide Ka).c0
  have Ka_1 := (unhide Ka).c1
  have Ka_2 := (unhide Ka).c2
  have Ka_3 := (unhide Ka).c3
  have Kb_0 := (unhide Kb).c0
  have Kb_1 := (unhide Kb).c1
  have Kb_2 := (unhide Kb).c2
  have Kb_3 := (unhide Kb).c3
  go_wp2_with fail
  refine (Aq.addQ_I va vb da db _ (unhide Aa) (unhide Ab)).mono ?_
  rintro e w2 ⟨vs, ds, ok, rfl, hb, aa, an⟩
  clear Ka_0 Ka_1 Ka_2 Ka_3 Kb_0 Kb_1 Kb_2 Kb_3
  replace Ka := hide ((unhide Ka).later hb)
  replace Kb := hide ((unhide Kb).later hb)
  replace Y2 := hide ((unhide Y2).later hb)
  replace HT := hide ((unhide HT).later hb)
  replace Aa := hide ((unhide Aa).later hb)
  replace Ab := hide ((unhide Ab).later hb)
  replace BW := hide (below_on (unhide BW) hb)
  clear hb
  have NS := hide an
  clear an
  have As := hide (aa)
  clear aa
  have al : Below w2.heap.size w2 (w2.alloc (.cells #[.bool vs.num.g, .slice vs.num.a vs.num.n vs.num.c, .bool vs.den.g, .slice vs.den.a vs.den.n vs.den.c] 27)) := (Below.refl _ _).alloc (Nat.le_refl _) _
  replace Ka := hide ((unhide Ka).later al)
  replace Kb := hide ((unhide Kb).later al)
  replace Y2 := hide ((unhide Y2).later al)
  replace HT := hide ((unhide HT).later al)
  replace Aa := hide ((unhide Aa).later al)
  replace Ab := hide ((unhide Ab).later al)
  replace As := hide ((unhide As).later al)
  replace BW := hide (below_on (unhide BW) al)
  clear al
  have Ks : Hid (Aq.BxQ (w2.alloc (.cells #[.bool vs.num.g, .slice vs.num.a vs.num.n vs.num.c, .bool vs.den.g, .slice vs.den.a vs.den.n vs.den.c] 27)) w2.heap.size vs) := hide Aq.BxQ.new
  have Ka_0 := (unhide Ka).c0
  have Ka_1 := (unhide Ka).c1
  have Ka_2 := (unhide Ka).c2
  have Ka_3 := (unhide Ka).c3
  have Kb_0 := (unhide Kb).c0
  have Kb_1 := (unhide Kb).c1
  have Kb_2 := (unhide Kb).c2
  have Kb_3 := (unhide Kb).c3
  go_wp2_with fail
  refine (Aq.addQ_S va vb da db _ (unhide Aa) (unhide Ab)).mono ?_
  rintro e w3 ⟨vw, dw, ok1, rfl, hb, aa, an⟩
  clear Ka_0 Ka_1 Ka_2 Ka_3 Kb_0 Kb_1 Kb_2 Kb_3
  replace Ka := hide ((unhide Ka).later hb)
  replace Kb := hide ((unhide Kb).later hb)
  replace Ks := hide ((unhide Ks).later hb)
  replace Y2 := hide ((unhide Y2).later hb)
  replace HT := hide ((unhide HT).later hb)
  replace Aa := hide ((unhide Aa).later hb)
  replace Ab := hide ((unhide Ab).later hb)
  replace As := hide ((unhide As).later hb)
  replace BW := hide (below_on (unhide BW) hb)
  clear hb
  obtain ⟨ed, eo⟩ := AnsQ.same (unhide NS) an
  subst ed eo
  clear an
  have Aw := hide (aa)
  clear aa
  have al : Below w3.heap.size w3 (w3.alloc (.cells #[.bool vw.num.g, .slice vw.num.a vw.num.n vw.num.c, .bool vw.den.g, .slice vw.den.a vw.den.n vw.den.c] 27)) := (Below.refl _ _).alloc (Nat.le_refl _) _
  replace Ka := hide ((unhide Ka).later al)
  replace Kb := hide ((unhide Kb).later al)
  replace Ks := hide ((unhide Ks).later al)
  replace Y2 := hide ((unhide Y2).later al)
  replace HT := hide ((unhide HT).later al)
  replace Aa := hide ((unhide Aa).later al)
  replace Ab := hide ((unhide Ab).later al)
  replace As := hide ((unhide As).later al)
  replace Aw := hide ((unhide Aw).later al)
  replace BW := hide (below_on (unhide BW) al)
  clear al
  have Kw : Hid (Aq.BxQ (w3.alloc (.cells #[.bool vw.num.g, .slice vw.num.a vw.num.n vw.num.c, .bool vw.den.g, .slice vw.den.a vw.den.n vw.den.c] 27)) w3.heap.size vw) := hide Aq.BxQ.new
  have Ka_0 := (unhide Ka).c0
  have Ka_1 := (unhide Ka).c1
  have Ka_2 := (unhide Ka).c2
  have Ka_3 := (unhide Ka).c3
  have Kb_0 := (unhide Kb).c0
  have Kb_1 := (unhide Kb).c1
  have Kb_2 := (unhide Kb).c2
  have Kb_3 := (unhide Kb).c3
  go_wp2_with fail
  refine (Aq.subQ_I va vb da db _ (unhide Aa) (unhide Ab)).mono ?_
  rintro e w4 ⟨vd, dd, one, rfl, hb, aa, an⟩
  clear Ka_0 Ka_1 Ka_2 Ka_3 Kb_0 Kb_1 Kb_2 Kb_3
  replace Ka := hide ((unhide Ka).later hb)
  replace Kb := hide ((unhide Kb).later hb)
  replace Ks := hide ((unhide Ks).later hb)
  replace Kw := hide ((unhide Kw).later hb)
  replace Y2 := hide ((unhide Y2).later hb)
  replace HT := hide ((unhide HT).later hb)
  replace Aa := hide ((unhide Aa).later hb)
  replace Ab := hide ((unhide Ab).later hb)
  replace As := hide ((unhide As).later hb)
  replace Aw := hide ((unhide Aw).later hb)
  replace BW := hide (below_on (unhide BW) hb)
  clear hb
  have ND := hide an
  clear an
  have Ad := hide (aa)
  clear aa
  have al : Below w4.heap.size w4 (w4.alloc (.cells #[.bool vd.num.g, .slice vd.num.a vd.num.n vd.num.c, .bool vd.den.g, .slice vd.den.a vd.den.n vd.den.c] 27)) := (Below.refl _ _).alloc (Nat.le_refl _) _
  replace Ka := hide ((unhide Ka).later al)
  replace Kb := hide ((unhide Kb).later al)
  replace Ks := hide ((unhide Ks).later al)
  replace Kw := hide ((unhide Kw).later al)
  replace Y2 := hide ((unhide Y2).later al)
  replace HT := hide ((unhide HT).later al)
  replace Aa := hide ((unhide Aa).later al)
  replace Ab := hide ((unhide Ab).later al)
  replace As := hide ((unhide As).later al)
  replace Aw := hide ((unhide Aw).later al)
  replace Ad := hide ((unhide Ad).later al)
  replace BW := hide (below_on (unhide BW) al)
  clear al
  have Kd : Hid (Aq.BxQ (w4.alloc (.cells #[.bool vd.num.g, .slice vd.num.a vd.num.n vd.num.c, .bool vd.den.g, .slice vd.den.a vd.den.n vd.den.c] 27)) w4.heap.size vd) := hide Aq.BxQ.new
  have Ka_0 := (unhide Ka).c0
  have Ka_1 := (unhide Ka).c1
  have Ka_2 := (unhide Ka).c2
  have Ka_3 := (unhide Ka).c3
  have Kb_0 := (unhide Kb).c0
  have Kb_1 := (unhide Kb).c1
  have Kb_2 := (unhide Kb).c2
  have Kb_3 := (unhide Kb).c3
  go_wp2_with fail
  refine (Aq.subQ_S va vb da db _ (unhide Aa) (unhide Ab)).mono ?_
  rintro e w5 ⟨vv, dv, ok1, rfl, hb, aa, an⟩
  clear Ka_0 Ka_1 Ka_2 Ka_3 Kb_0 Kb_1 Kb_2 Kb_3
  replace Ka := hide ((unhide Ka).later hb)
  replace Kb := hide ((unhide Kb).later hb)
  replace Ks := hide ((unhide Ks).later hb)
  replace Kw := hide ((unhide Kw).later hb)
  replace Kd := hide ((unhide Kd).later hb)
  replace Y2 := hide ((unhide Y2).later hb)
  replace HT := hide ((unhide HT).later hb)
  replace Aa := hide ((unhide Aa).later hb)
  replace Ab := hide ((unhide Ab).later hb)
  replace As := hide ((unhide As).later hb)
  replace Aw := hide ((unhide Aw).later hb)
  replace Ad := hide ((unhide Ad).later hb)
  replace BW := hide (below_on (unhide BW) hb)
  clear hb
  obtain ⟨ed, eo⟩ := AnsQ.same (unhide ND) an
  subst ed eo
  clear an
  have Av := hide (aa)
  clear aa
  have al : Below w5.heap.size w5 (w5.alloc (.cells #[.bool vv.num.g, .slice vv.num.a vv.num.n vv.num.c, .bool vv.den.g, .slice vv.den.a vv.den.n vv.den.c] 27)) := (Below.refl _ _).alloc (Nat.le_refl _) _
  replace Ka := hide ((unhide Ka).later al)
  replace Kb := hide ((unhide Kb).later al)
  replace Ks := hide ((unhide Ks).later al)
  replace Kw := hide ((unhide Kw).later al)
  replace Kd := hide ((unhide Kd).later al)
  replace Y2 := hide ((unhide Y2).later al)
  replace HT := hide ((unhide HT).later al)
  replace Aa := hide ((unhide Aa).later al)
  replace Ab := hide ((unhide Ab).later al)
  replace As := hide ((unhide As).later al)
  replace Aw := hide ((unhide Aw).later al)
  replace Ad := hide ((unhide Ad).later al)
  replace Av := hide ((unhide Av).later al)
  replace BW := hide (below_on (unhide BW) al)
  clear al
  have Kv : Hid (Aq.BxQ (w5.alloc (.cells #[.bool vv.num.g, .slice vv.num.a vv.num.n vv.num.c, .bool vv.den.g, .slice vv.den.a vv.den.n vv.den.c] 27)) w5.heap.size vv) := hide Aq.BxQ.new
  have Ka_0 := (unhide Ka).c0
  have Ka_1 := (unhide Ka).c1
  have Ka_2 := (unhide Ka).c2
  have Ka_3 := (unhide Ka).c3
  have Kb_0 := (unhide Kb).c0
  have Kb_1 := (unhide Kb).c1
  have Kb_2 := (unhide Kb).c2
  have Kb_3 := (unhide Kb).c3
  go_wp2_with fail
  refine (Aq.mulQ_I va vb da db _ (unhide Aa) (unhide Ab)).mono ?_
  rintro e w6 ⟨vp, dp, two, rfl, hb, aa, an⟩
  clear Ka_0 Ka_1 Ka_2 Ka_3 Kb_0 Kb_1 Kb_2 Kb_3
  replace Ka := hide ((unhide Ka).later hb)
  replace Kb := hide ((unhide Kb).later hb)
  replace Ks := hide ((unhide Ks).later hb)
  replace Kw := hide ((unhide Kw).later hb)
  replace Kd := hide ((unhide Kd).later hb)
  replace Kv := hide ((unhide Kv).later hb)
  replace Y2 := hide ((unhide Y2).later hb)
  replace HT := hide ((unhide HT).later hb)
  replace Aa := hide ((unhide Aa).later hb)
  replace Ab := hide ((unhide Ab).later hb)
  replace As := hide ((unhide As).later hb)
  replace Aw := hide ((unhide Aw).later hb)
  replace Ad := hide ((unhide Ad).later hb)
  replace Av := hide ((unhide Av).later hb)
  replace BW := hide (below_on (unhide BW) hb)
  clear hb
  have NP := hide an
  clear an
  have Ap := hide (aa)
  clear aa
  have al : Below w6.heap.size w6 (w6.alloc (.cells #[.bool vp.num.g, .slice vp.num.a vp.num.n vp.num.c, .bool vp.den.g, .slice vp.den.a vp.den.n vp.den.c] 27)) := (Below.refl _ _).alloc (Nat.le_refl _) _
  replace Ka := hide ((unhide Ka).later al)
  replace Kb := hide ((unhide Kb).later al)
  replace Ks := hide ((unhide Ks).later al)
  replace Kw := hide ((unhide Kw).later al)
  replace Kd := hide ((unhide Kd).later al)
  replace Kv := hide ((unhide Kv).later al)
  replace Y2 := hide ((unhide Y2).later al)
  replace HT := hide ((unhide HT).later al)
  replace Aa := hide ((unhide Aa).later al)
  replace Ab := hide ((unhide Ab).later al)
  replace As := hide ((unhide As).later al)
  replace Aw := hide ((unhide Aw).later al)
  replace Ad := hide ((unhide Ad).later al)
  replace Av := hide ((unhide Av).later al)
  replace Ap := hide ((unhide Ap).later al)
  replace BW := hide (below_on (unhide BW) al)
  clear al
  have Kp : Hid (Aq.BxQ (w6.alloc (.cells #[.bool vp.num.g, .slice vp.num.a vp.num.n vp.num.c, .bool vp.den.g, .slice vp.den.a vp.den.n vp.den.c] 27)) w6.heap.size vp) := hide Aq.BxQ.new
  have Ka_0 := (unhide Ka).c0
  have Ka_1 := (unhide Ka).c1
  have Ka_2 := (unhide Ka).c2
  have Ka_3 := (unhide Ka).c3
  have Kb_0 := (unhide Kb).c0
  have Kb_1 := (unhide Kb).c1
  have Kb_2 := (unhide Kb).c2
  have Kb_3 := (unhide Kb).c3
  go_wp2_with fail
  refine (Aq.mulQ_S va vb da db _ (unhide Aa) (unhide Ab)).mono ?_
  rintro e w7 ⟨vu, du, ok1, rfl, hb, aa, an⟩
  clear Ka_0 Ka_1 Ka_2 Ka_3 Kb_0 Kb_1 Kb_2 Kb_3
  replace Ka := hide ((unhide Ka).later hb)
  replace Kb := hide ((unhide Kb).later hb)
  replace Ks := hide ((unhide Ks).later hb)
  replace Kw := hide ((unhide Kw).later hb)
  replace Kd := hide ((unhide Kd).later hb)
  replace Kv := hide ((unhide Kv).later hb)
  replace Kp := hide ((unhide Kp).later hb)
  replace Y2 := hide ((unhide Y2).later hb)
  replace HT := hide ((unhide HT).later hb)
  replace Aa := hide ((unhide Aa).later hb)
  replace Ab := hide ((unhide Ab).later hb)
  replace As := hide ((unhide As).later hb)
  replace Aw := hide ((unhide Aw).later hb)
  replace Ad := hide ((unhide Ad).later hb)
  replace Av := hide ((unhide Av).later hb)
  replace Ap := hide ((unhide Ap).later hb)
  replace BW := hide (below_on (unhide BW) hb)
  clear hb
  obtain ⟨ed, eo⟩ := AnsQ.same (unhide NP) an
  subst ed eo
  clear an
  have Au := hide (aa)
  clear aa
  have al : Below w7.heap.size w7 (w7.alloc (.cells #[.bool vu.num.g, .slice vu.num.a vu.num.n vu.num.c, .bool vu.den.g, .slice vu.den.a vu.den.n vu.den.c] 27)) := (Below.refl _ _).alloc (Nat.le_refl _) _
  replace Ka := hide ((unhide Ka).later al)
  replace Kb := hide ((unhide Kb).later al)
  replace Ks := hide ((unhide Ks).later al)
  replace Kw := hide ((unhide Kw).later al)
  replace Kd := hide ((unhide Kd).later al)
  replace Kv := hide ((unhide Kv).later al)
  replace Kp := hide ((unhide Kp).later al)
  replace Y2 := hide ((unhide Y2).later al)
  replace HT := hide ((unhide HT).later al)
  replace Aa := hide ((unhide Aa).later al)
  replace Ab := hide ((unhide Ab).later al)
  replace As := hide ((unhide As).later al)
  replace Aw := hide ((unhide Aw).later al)
  replace Ad := hide ((unhide Ad).later al)
  replace Av := hide ((unhide Av).later al)
  replace Ap := hide ((unhide Ap).later al)
  replace Au := hide ((unhide Au).later al)
  replace BW := hide (below_on (unhide BW) al)
  clear al
  have Ku : Hid (Aq.BxQ (w7.alloc (.cells #[.bool vu.num.g, .slice vu.num.a vu.num.n vu.num.c, .bool vu.den.g, .slice vu.den.a vu.den.n vu.den.c] 27)) w7.heap.size vu) := hide Aq.BxQ.new
  have Ka_0 := (unhide Ka).c0
  have Ka_1 := (unhide Ka).c1
  have Ka_2 := (unhide Ka).c2
  have Ka_3 := (unhide Ka).c3
  have Kb_0 := (unhide Kb).c0
  have Kb_1 := (unhide Kb).c1
  have Kb_2 := (unhide Kb).c2
  have Kb_3 := (unhide Kb).c3
  go_wp2_with fail
  refine (Aq.divQ_I va vb da db _ (unhide Aa) (unhide Ab)).mono ?_
  rintro e w8 ⟨vk, dk, three, rfl, hb, aa, an⟩
  clear Ka_0 Ka_1 Ka_2 Ka_3 Kb_0 Kb_1 Kb_2 Kb_3
  replace Ka := hide ((unhide Ka).later hb)
  replace Kb := hide ((unhide Kb).later hb)
  replace Ks := hide ((unhide Ks).later hb)
  replace Kw := hide ((unhide Kw).later hb)
  replace Kd := hide ((unhide Kd).later hb)
  replace Kv := hide ((unhide Kv).later hb)
  replace Kp := hide ((unhide Kp).later hb)
  replace Ku := hide ((unhide Ku).later hb)
  replace Y2 := hide ((unhide Y2).later hb)
  replace HT := hide ((unhide HT).later hb)
  replace Aa := hide ((unhide Aa).later hb)
  replace Ab := hide ((unhide Ab).later hb)
  replace As := hide ((unhide As).later hb)
  replace Aw := hide ((unhide Aw).later hb)
  replace Ad := hide ((unhide Ad).later hb)
  replace Av := hide ((unhide Av).later hb)
  replace Ap := hide ((unhide Ap).later hb)
  replace Au := hide ((unhide Au).later hb)
  replace BW := hide (below_on (unhide BW) hb)
  clear hb
  have NQ := hide an
  clear an
  have Ak := hide (aa)
  clear aa
  have al : Below w8.heap.size w8 (w8.alloc (.cells #[.bool vk.num.g, .slice vk.num.a vk.num.n vk.num.c, .bool vk.den.g, .slice vk.den.a vk.den.n vk.den.c] 27)) := (Below.refl _ _).alloc (Nat.le_refl _) _
  replace Ka := hide ((unhide Ka).later al)
  replace Kb := hide ((unhide Kb).later al)
  replace Ks := hide ((unhide Ks).later al)
  replace Kw := hide ((unhide Kw).later al)
  replace Kd := hide ((unhide Kd).later al)
  replace Kv := hide ((unhide Kv).later al)
  replace Kp := hide ((unhide Kp).later al)
  replace Ku := hide ((unhide Ku).later al)
  replace Y2 := hide ((unhide Y2).later al)
  replace HT := hide ((unhide HT).later al)
  replace Aa := hide ((unhide Aa).later al)
  replace Ab := hide ((unhide Ab).later al)
  replace As := hide ((unhide As).later al)
  replace Aw := hide ((unhide Aw).later al)
  replace Ad := hide ((unhide Ad).later al)
  replace Av := hide ((unhide Av).later al)
  replace Ap := hide ((unhide Ap).later al)
  replace Au := hide ((unhide Au).later al)
  replace Ak := hide ((unhide Ak).later al)
  replace BW := hide (below_on (unhide BW) al)
  clear al
  have Kk : Hid (Aq.BxQ (w8.alloc (.cells #[.bool vk.num.g, .slice vk.num.a vk.num.n vk.num.c, .bool vk.den.g, .slice vk.den.a vk.den.n vk.den.c] 27)) w8.heap.size vk) := hide Aq.BxQ.new
  have Ka_0 := (unhide Ka).c0
  have Ka_1 := (unhide Ka).c1
  have Ka_2 := (unhide Ka).c2
  have Ka_3 := (unhide Ka).c3
  have Kb_0 := (unhide Kb).c0
  have Kb_1 := (unhide Kb).c1
  have Kb_2 := (unhide Kb).c2
  have Kb_3 := (unhide Kb).c3
  go_wp2_with fail
  refine (Aq.divQ_S va vb da db _ (unhide Aa) (unhide Ab)).mono ?_
  rintro e w9 ⟨vt, dt, ok1, rfl, hb, aa, an⟩
  clear Ka_0 Ka_1 Ka_2 Ka_3 Kb_0 Kb_1 Kb_2 Kb_3
  replace Ka := hide ((unhide Ka).later hb)
  replace Kb := hide ((unhide Kb).later hb)
  replace Ks := hide ((unhide Ks).later hb)
  replace Kw := hide ((unhide Kw).later hb)
  replace Kd := hide ((unhide Kd).later hb)
  replace Kv := hide ((unhide Kv).later hb)
  replace Kp := hide ((unhide Kp).later hb)
  replace Ku := hide ((unhide Ku).later hb)
  replace Kk := hide ((unhide Kk).later hb)
  replace Y2 := hide ((unhide Y2).later hb)
  replace HT := hide ((unhide HT).later hb)
  replace Aa := hide ((unhide Aa).later hb)
  replace Ab := hide ((unhide Ab).later hb)
  replace As := hide ((unhide As).later hb)
  replace Aw := hide ((unhide Aw).later hb)
  replace Ad := hide ((unhide Ad).later hb)
  replace Av := hide ((unhide Av).later hb)
  replace Ap := hide ((unhide Ap).later hb)
  replace Au := hide ((unhide Au).later hb)
  replace Ak := hide ((unhide Ak).later hb)
  replace BW := hide (below_on (unhide BW) hb)
  clear hb
  obtain ⟨ed, eo⟩ := AnsQ.same (unhide NQ) an
  subst ed eo
  clear an
  have At := hide (aa)
  clear aa
  have al : Below w9.heap.size w9 (w9.alloc (.cells #[.bool vt.num.g, .slice vt.num.a vt.num.n vt.num.c, .bool vt.den.g, .slice vt.den.a vt.den.n vt.den.c] 27)) := (Below.refl _ _).alloc (Nat.le_refl _) _
  replace Ka := hide ((unhide Ka).later al)
  replace Kb := hide ((unhide Kb).later al)
  replace Ks := hide ((unhide Ks).later al)
  replace Kw := hide ((unhide Kw).later al)
  replace Kd := hide ((unhide Kd).later al)
  replace Kv := hide ((unhide Kv).later al)
  replace Kp := hide ((unhide Kp).later al)
  replace Ku := hide ((unhide Ku).later al)
  replace Kk := hide ((unhide Kk).later al)
  replace Y2 := hide ((unhide Y2).later al)
  replace HT := hide ((unhide HT).later al)
  replace Aa := hide ((unhide Aa).later al)
  replace Ab := hide ((unhide Ab).later al)
  replace As := hide ((unhide As).later al)
  replace Aw := hide ((unhide Aw).later al)
  replace Ad := hide ((unhide Ad).later al)
  replace Av := hide ((unhide Av).later al)
  replace Ap := hide ((unhide Ap).later al)
  replace Au := hide ((unhide Au).later al)
  replace Ak := hide ((unhide Ak).later al)
  replace At := hide ((unhide At).later al)
  replace BW := hide (below_on (unhide BW) al)
  clear al
  have Kt : Hid (Aq.BxQ (w9.alloc (.cells #[.bool vt.num.g, .slice vt.num.a vt.num.n vt.num.c, .bool vt.den.g, .slice vt.den.a vt.den.n vt.den.c] 27)) w9.heap.size vt) := hide Aq.BxQ.new
  have Ka_0 := (unhide Ka).c0
  have Ka_1 := (unhide Ka).c1
  have Ka_2 := (unhide Ka).c2
  have Ka_3 := (unhide Ka).c3
  have Kb_0 := (unhide Kb).c0
  have Kb_1 := (unhide Kb).c1
  have Kb_2 := (unhide Kb).c2
  have Kb_3 := (unhide Kb).c3
  go_wp2_with fail
  refine (Aq.cmpQ_I va vb da db _ (unhide Aa) (unhide Ab)).mono ?_
  rintro e w10 ⟨cv, four, rfl, hb, kq⟩
  clear Ka_0 Ka_1 Ka_2 Ka_3 Kb_0 Kb_1 Kb_2 Kb_3
  replace Ka := hide ((unhide Ka).later hb)
  replace Kb := hide ((unhide Kb).later hb)
  replace Ks := hide ((unhide Ks).later hb)
  replace Kw := hide ((unhide Kw).later hb)
  replace Kd := hide ((unhide Kd).later hb)
  replace Kv := hide ((unhide Kv).later hb)
  replace Kp := hide ((unhide Kp).later hb)
  replace Ku := hide ((unhide Ku).later hb)
  replace Kk := hide ((unhide Kk).later hb)
  replace Kt := hide ((unhide Kt).later hb)
  replace Y2 := hide ((unhide Y2).later hb)
  replace HT := hide ((unhide HT).later hb)
  replace Aa := hide ((unhide Aa).later hb)
  replace Ab := hide ((unhide Ab).later hb)
  replace As := hide ((unhide As).later hb)
  replace Aw := hide ((unhide Aw).later hb)
  replace Ad := hide ((unhide Ad).later hb)
  replace Av := hide ((unhide Av).later hb)
  replace Ap := hide ((unhide Ap).later hb)
  replace Au := hide ((unhide Au).later hb)
  replace Ak := hide ((unhide Ak).later hb)
  replace At := hide ((unhide At).later hb)
  replace BW := hide (below_on (unhide BW) hb)
  clear hb
  have NC := hide kq
  clear kq
  have Ka_0 := (unhide Ka).c0
  have Ka_1 := (unhide Ka).c1
  have Ka_2 := (unhide Ka).c2
  have Ka_3 := (unhide Ka).c3
  have Kb_0 := (unhide Kb).c0
  have Kb_1 := (unhide Kb).c1
  have Kb_2 := (unhide Kb).c2
  have Kb_3 := (unhide Kb).c3
  go_wp2_with fail
  refine (Aq.cmpQ_S va vb da db _ (unhide Aa) (unhide Ab)).mono ?_
  rintro e w11 ⟨cv1, four1, rfl, hb, kq⟩
  clear Ka_0 Ka_1 Ka_2 Ka_3 Kb_0 Kb_1 Kb_2 Kb_3
  replace Ka := hide ((unhide Ka).later hb)
  replace Kb := hide ((unhide Kb).later hb)
  replace Ks := hide ((unhide Ks).later hb)
  replace Kw := hide ((unhide Kw).later hb)
  replace Kd := hide ((unhide Kd).later hb)
  replace Kv := hide ((unhide Kv).later hb)
  replace Kp := hide ((unhide Kp).later hb)
  replace Ku := hide ((unhide Ku).later hb)
  replace Kk := hide ((unhide Kk).later hb)
  replace Kt := hide ((unhide Kt).later hb)
  replace Y2 := hide ((unhide Y2).later hb)
  replace HT := hide ((unhide HT).later hb)
  replace Aa := hide ((unhide Aa).later hb)
  replace Ab := hide ((unhide Ab).later hb)
  replace As := hide ((unhide As).later hb)
  replace Aw := hide ((unhide Aw).later hb)
  replace Ad := hide ((unhide Ad).later hb)
  replace Av := hide ((unhide Av).later hb)
  replace Ap := hide ((unhide Ap).later hb)
  replace Au := hide ((unhide Au).later hb)
  replace Ak := hide ((unhide Ak).later hb)
  replace At := hide ((unhide At).later hb)
  replace BW := hide (below_on (unhide BW) hb)
  clear hb
  obtain ⟨ed, eo⟩ := Aq.KQ.same (unhide NC) kq
  subst ed eo
  clear kq
  have CGI := hide (fun (w' : World) (k : AllAr w' [(va.num, da.num), (va.den, da.den)]) => goodQI va da w' k)
  have CGS := hide (fun (w' : World) (k : AllAr w' [(va.num, da.num), (va.den, da.den)]) => goodQS va da w' k)
  have LS := hide ((unhide NS).lens)
  have LD := hide ((unhide ND).lens)
  have LP := hide ((unhide NP).lens)
  have LQ := hide ((unhide NQ).lens)
  have SG : Hid (one = true → dd.num.g = decide (cv < 0)) := hide (fun e => by subst e; exact Aq.diff_sign (unhide ND) (unhide NC))
  clear NC NP
  generalize hga : gQ da = ga at CGI CGS
  clear hga
  have x1 : (ok != ok) = false := by simp
  have x2 : (one != one) = false := by simp
  have x3 : (two != two) = false := by simp
  have x4 : (three != three) = false := by simp
  have x5 : (four != four) = false := by simp
  have x6 : (cv != cv) = false := by simp
  have x7 : (ga != ga) = false := by simp
  go_upto_region 14 with fail
  have Ks_0 := (unhide Ks).c0
  have Ks_1 := (unhide Ks).c1
  have Ks_2 := (unhide Ks).c2
  have Ks_3 := (unhide Ks).c3
  have Kw_0 := (unhide Kw).c0
  have Kw_1 := (unhide Kw).c1
  have Kw_2 := (unhide Kw).c2
  have Kw_3 := (unhide Kw).c3
  have Kd_0 := (unhide Kd).c0
  have Kd_1 := (unhide Kd).c1
  have Kd_2 := (unhide Kd).c2
  have Kd_3 := (unhide Kd).c3
  have Kv_0 := (unhide Kv).c0
  have Kv_1 := (unhide Kv).c1
  have Kv_2 := (unhide Kv).c2
  have Kv_3 := (unhide Kv).c3
  have Kp_0 := (unhide Kp).c0
  have Kp_1 := (unhide Kp).c1
  have Kp_2 := (unhide Kp).c2
  have Kp_3 := (unhide Kp).c3
  have Ku_0 := (unhide Ku).c0
  have Ku_1 := (unhide Ku).c1
  have Ku_2 := (unhide Ku).c2
  have Ku_3 := (unhide Ku).c3
  have Kk_0 := (unhide Kk).c0
  have Kk_1 := (unhide Kk).c1
  have Kk_2 := (unhide Kk).c2
  have Kk_3 := (unhide Kk).c3
  have Kt_0 := (unhide Kt).c0
  have Kt_1 := (unhide Kt).c1
  have Kt_2 := (unhide Kt).c2
  have Kt_3 := (unhide Kt).c3
  have Ka_0 := (unhide Ka).c0
  have Ka_1 := (unhide Ka).c1
  have Ka_2 := (unhide Ka).c2
  have Ka_3 := (unhide Ka).c3
  refine wp_region_held_drew (S := fun w' => w'.cell? ⟨w2.heap.size, 0, none⟩ = some (.bool vs.num.g) ∧ w'.cell? ⟨w2.heap.size, 1, none⟩ = some (.slice vs.num.a vs.num.n vs.num.c) ∧ w'.cell? ⟨w2.heap.size, 2, none⟩ = some (.bool vs.den.g) ∧ w'.cell? ⟨w2.heap.size, 3, none⟩ = some (.slice vs.den.a vs.den.n vs.den.c) ∧ w'.cell? ⟨w3.heap.size, 0, none⟩ = some (.bool vw.num.g) ∧ w'.cell? ⟨w3.heap.size, 1, none⟩ = some (.slice vw.num.a vw.num.n vw.num.c) ∧ w'.cell? ⟨w3.heap.size, 2, none⟩ = some (.bool vw.den.g) ∧ w'.cell? ⟨w3.heap.size, 3, none⟩ = some (.slice vw.den.a vw.den.n vw.den.c) ∧ w'.cell? ⟨w4.heap.size, 0, none⟩ = some (.bool vd.num.g) ∧ w'.cell? ⟨w4.heap.size, 1, none⟩ = some (.slice vd.num.a vd.num.n vd.num.c) ∧ w'.cell? ⟨w4.heap.size, 2, none⟩ = some (.bool vd.den.g) ∧ w'.cell? ⟨w4.heap.size, 3, none⟩ = some (.slice vd.den.a vd.den.n vd.den.c) ∧ w'.cell? ⟨w5.heap.size, 0, none⟩ = some (.bool vv.num.g) ∧ w'.cell? ⟨w5.heap.size, 1, none⟩ = some (.slice vv.num.a vv.num.n vv.num.c) ∧ w'.cell? ⟨w5.heap.size, 2, none⟩ = some (.bool vv.den.g) ∧ w'.cell? ⟨w5.heap.size, 3, none⟩ = some (.slice vv.den.a vv.den.n vv.den.c) ∧ w'.cell? ⟨w6.heap.size, 0, none⟩ = some (.bool vp.num.g) ∧ w'.cell? ⟨w6.heap.size, 1, none⟩ = some (.slice vp.num.a vp.num.n vp.num.c) ∧ w'.cell? ⟨w6.heap.size, 2, none⟩ = some (.bool vp.den.g) ∧ w'.cell? ⟨w6.heap.size, 3, none⟩ = some (.slice vp.den.a vp.den.n vp.den.c) ∧ w'.cell? ⟨w7.heap.size, 0, none⟩ = some (.bool vu.num.g) ∧ w'.cell? ⟨w7.heap.size, 1, none⟩ = some (.slice vu.num.a vu.num.n vu.num.c) ∧ w'.cell? ⟨w7.heap.size, 2, none⟩ = some (.bool vu.den.g) ∧ w'.cell? ⟨w7.heap.size, 3, none⟩ = some (.slice vu.den.a vu.den.n vu.den.c) ∧ w'.cell? ⟨w8.heap.size, 0, none⟩ = some (.bool vk.num.g) ∧ w'.cell? ⟨w8.heap.size, 1, none⟩ = some (.slice vk.num.a vk.num.n vk.num.c) ∧ w'.cell? ⟨w8.heap.size, 2, none⟩ = some (.bool vk.den.g) ∧ w'.cell? ⟨w8.heap.size, 3, none⟩ = some (.slice vk.den.a vk.den.n vk.den.c) ∧ w'.cell? ⟨w9.heap.size, 0, none⟩ = some (.bool vt.num.g) ∧ w'.cell? ⟨w9.heap.size, 1, none⟩ = some (.slice vt.num.a vt.num.n vt.num.c) ∧ w'.cell? ⟨w9.heap.size, 2, none⟩ = some (.bool vt.den.g) ∧ w'.cell? ⟨w9.heap.size, 3, none⟩ = some (.slice vt.den.a vt.den.n vt.den.c) ∧ w'.cell? ⟨w1.heap.size, 0, none⟩ = some (.bool va.num.g) ∧ w'.cell? ⟨w1.heap.size, 1, none⟩ = some (.slice va.num.a va.num.n va.num.c) ∧ w'.cell? ⟨w1.heap.size, 2, none⟩ = some (.bool va.den.g) ∧ w'.cell? ⟨w1.heap.size, 3, none⟩ = some (.slice va.den.a va.den.n va.den.c)) (by kernel_rfl) ⟨Ks_0, Ks_1, Ks_2, Ks_3, Kw_0, Kw_1, Kw_2, Kw_3, Kd_0, Kd_1, Kd_2, Kd_3, Kv_0, Kv_1, Kv_2, Kv_3, Kp_0, Kp_1, Kp_2, Kp_3, Ku_0, Ku_1, Ku_2, Ku_3, Kk_0, Kk_1, Kk_2, Kk_3, Kt_0, Kt_1, Kt_2, Kt_3, Ka_0, Ka_1, Ka_2, Ka_3⟩ (fun hHeld => ?_)
  simp only [List.size_toArray, List.length_cons, List.length_nil, Nat.reduceAdd, Array.replicate_succ, Array.replicate_zero, List.push_toArray, List.nil_append, List.cons_append]
  have BD := (Below.refl w11.heap.size w11).drew
  replace Ks_0 := cell_later BD Ks_0
  replace Ks_1 := cell_later BD Ks_1
  replace Ks_2 := cell_later BD Ks_2
  replace Ks_3 := cell_later BD Ks_3
  replace Kw_0 := cell_later BD Kw_0
  replace Kw_1 := cell_later BD Kw_1
  replace Kw_2 := cell_later BD Kw_2
  replace Kw_3 := cell_later BD Kw_3
  replace Kd_0 := cell_later BD Kd_0
  replace Kd_1 := cell_later BD Kd_1
  replace Kd_2 := cell_later BD Kd_2
  replace Kd_3 := cell_later BD Kd_3
  replace Kv_0 := cell_later BD Kv_0
  replace Kv_1 := cell_later BD Kv_1
  replace Kv_2 := cell_later BD Kv_2
  replace Kv_3 := cell_later BD Kv_3
  replace Kp_0 := cell_later BD Kp_0
  replace Kp_1 := cell_later BD Kp_1
  replace Kp_2 := cell_later BD Kp_2
  replace Kp_3 := cell_later BD Kp_3
  replace Ku_0 := cell_later BD Ku_0
  replace Ku_1 := cell_later BD Ku_1
  replace Ku_2 := cell_later BD Ku_2
  replace Ku_3 := cell_later BD Ku_3
  replace Kk_0 := cell_later BD Kk_0
  replace Kk_1 := cell_later BD Kk_1
  replace Kk_2 := cell_later BD Kk_2
  replace Kk_3 := cell_later BD Kk_3
  replace Kt_0 := cell_later BD Kt_0
  replace Kt_1 := cell_later BD Kt_1
  replace Kt_2 := cell_later BD Kt_2
  replace Kt_3 := cell_later BD Kt_3
  replace Ka_0 := cell_later BD Ka_0
  replace Ka_1 := cell_later BD Ka_1
  replace Ka_2 := cell_later BD Ka_2
  replace Ka_3 := cell_later BD Ka_3
  replace Ka := hide ((unhide Ka).later BD)
  replace Kb := hide ((unhide Kb).later BD)
  replace Ks := hide ((unhide Ks).later BD)
  replace Kw := hide ((unhide Kw).later BD)
  replace Kd := hide ((unhide Kd).later BD)
  replace Kv := hide ((unhide Kv).later BD)
  replace Kp := hide ((unhide Kp).later BD)
  replace Ku := hide ((unhide Ku).later BD)
  replace Kk := hide ((unhide Kk).later BD)
  replace Kt := hide ((unhide Kt).later BD)
  replace Y2 := hide ((unhide Y2).later BD)
  replace HT := hide ((unhide HT).later BD)
  replace Aa := hide ((unhide Aa).later BD)
  replace Ab := hide ((unhide Ab).later BD)
  replace As := hide ((unhide As).later BD)
  replace Aw := hide ((unhide Aw).later BD)
  replace Ad := hide ((unhide Ad).later BD)
  replace Av := hide ((unhide Av).later BD)
  replace Ap := hide ((unhide Ap).later BD)
  replace Au := hide ((unhide Au).later BD)
  replace Ak := hide ((unhide Ak).later BD)
  replace At := hide ((unhide At).later BD)
  replace BW := hide (below_on (unhide BW) BD)
  clear BD
  generalize w11.drew = wd at *
  refine wpAnyH_take (i := 0) (v := .bool ok) rfl (by kernel_rfl) (by kernel_rfl) (by kernel_rfl) (fun _ _ _ h => h) (Or.inl ⟨by rfl, by intro w hSw; (try dsimp only at hSw); go_simp⟩) hHeld ?_
  simp only [List.getElem_toArray, List.getElem_cons_zero, List.getElem_cons_succ, Act.put, List.setIfInBounds_toArray, List.set_cons_zero, List.set_cons_succ]
  refine wpAnyH_take (i := 1) (v := .bool ok) rfl (by kernel_rfl) (by kernel_rfl) (by kernel_rfl) (fun _ _ _ h => h) (Or.inl ⟨by rfl, by intro w hSw; (try dsimp only at hSw); go_simp⟩) hHeld ?_
  simp only [List.getElem_toArray, List.getElem_cons_zero, List.getElem_cons_succ, Act.put, List.setIfInBounds_toArray, List.set_cons_zero, List.set_cons_succ]
  refine wpAnyH_take (i := 2) (v := .bool false) rfl (by kernel_rfl) (by kernel_rfl) (by kernel_rfl) (fun _ _ _ h => h) (Or.inl ⟨by rfl, by intro w hSw; (try dsimp only at hSw); go_simp⟩) hHeld ?_
  simp only [List.getElem_toArray, List.getElem_cons_zero, List.getElem_cons_succ, Act.put, List.setIfInBounds_toArray, List.set_cons_zero, List.set_cons_succ]
  refine wpAnyH_take (i := 3) (v := .bool false) rfl (by kernel_rfl) (by kernel_rfl) (by kernel_rfl) (fun _ _ _ h => h) (Or.inl ⟨by rfl, by intro w hSw; (try dsimp only at hSw); go_simp⟩) hHeld ?_
  simp only [List.getElem_toArray, List.getElem_cons_zero, List.getElem_cons_succ, Act.put, List.setIfInBounds_toArray, List.set_cons_zero, List.set_cons_succ]
  refine wpAnyH_take (i := 4) (v := .agg #[.bool vs.num.g, .slice vs.num.a vs.num.n vs.num.c, .bool vs.den.g, .slice vs.den.a vs.den.n vs.den.c]) rfl (by kernel_rfl) (by kernel_rfl) (by kernel_rfl) (fun _ _ _ h => h) (Or.inl ⟨by rfl, by intro w hSw; (try dsimp only at hSw); go_simp⟩) hHeld ?_
  simp only [List.getElem_toArray, List.getElem_cons_zero, List.getElem_cons_succ, Act.put, List.setIfInBounds_toArray, List.set_cons_zero, List.set_cons_succ]
  refine wpAnyH_take (i := 5) (v := .agg #[.bool vw.num.g, .slice vw.num.a vw.num.n vw.num.c, .bool vw.den.g, .slice vw.den.a vw.den.n vw.den.c]) rfl (by kernel_rfl) (by kernel_rfl) (by kernel_rfl) (fun _ _ _ h => h) (Or.inl ⟨by rfl, by intro w hSw; (try dsimp only at hSw); go_simp⟩) hHeld ?_
  simp only [List.getElem_toArray, List.getElem_cons_zero, List.getElem_cons_succ, Act.put, List.setIfInBounds_toArray, List.set_cons_zero, List.set_cons_succ]
  refine wpAnyH_ready (rs := [6]) (by kernel_rfl) (by simp) (AllReadyH.cons rfl (fun K hK => ?_) AllReadyH.nil)
  go_simp
  refine (Aq.sameQ vs vw ds _ (unhide As) (unhide Aw) (by have := (unhide LS).1; omega) (by have := (unhide LS).2; omega)).mono ?_
  rintro e wc0 ⟨rfl, hb1⟩
  have hbx := hb1
  replace Ks_0 := cell_later hbx Ks_0
  replace Ks_1 := cell_later hbx Ks_1
  replace Ks_2 := cell_later hbx Ks_2
  replace Ks_3 := cell_later hbx Ks_3
  replace Kw_0 := cell_later hbx Kw_0
  replace Kw_1 := cell_later hbx Kw_1
  replace Kw_2 := cell_later hbx Kw_2
  replace Kw_3 := cell_later hbx Kw_3
  replace Kd_0 := cell_later hbx Kd_0
  replace Kd_1 := cell_later hbx Kd_1
  replace Kd_2 := cell_later hbx Kd_2
  replace Kd_3 := cell_later hbx Kd_3
  replace Kv_0 := cell_later hbx Kv_0
  replace Kv_1 := cell_later hbx Kv_1
  replace Kv_2 := cell_later hbx Kv_2
  replace Kv_3 := cell_later hbx Kv_3
  replace Kp_0 := cell_later hbx Kp_0
  replace Kp_1 := cell_later hbx Kp_1
  replace Kp_2 := cell_later hbx Kp_2
  replace Kp_3 := cell_later hbx Kp_3
  replace Ku_0 := cell_later hbx Ku_0
  replace Ku_1 := cell_later hbx Ku_1
  replace Ku_2 := cell_later hbx Ku_2
  replace Ku_3 := cell_later hbx Ku_3
  replace Kk_0 := cell_later hbx Kk_0
  replace Kk_1 := cell_later hbx Kk_1
  replace Kk_2 := cell_later hbx Kk_2
  replace Kk_3 := cell_later hbx Kk_3
  replace Kt_0 := cell_later hbx Kt_0
  replace Kt_1 := cell_later hbx Kt_1
  replace Kt_2 := cell_later hbx Kt_2
  replace Kt_3 := cell_later hbx Kt_3
  replace Ka_0 := cell_later hbx Ka_0
  replace Ka_1 := cell_later hbx Ka_1
  replace Ka_2 := cell_later hbx Ka_2
  replace Ka_3 := cell_later hbx Ka_3
  replace Ka := hide ((unhide Ka).later hbx)
  replace Kb := hide ((unhide Kb).later hbx)
  replace Ks := hide ((unhide Ks).later hbx)
  replace Kw := hide ((unhide Kw).later hbx)
  replace Kd := hide ((unhide Kd).later hbx)
  replace Kv := hide ((unhide Kv).later hbx)
  replace Kp := hide ((unhide Kp).later hbx)
  replace Ku := hide ((unhide Ku).later hbx)
  replace Kk := hide ((unhide Kk).later hbx)
  replace Kt := hide ((unhide Kt).later hbx)
  replace Y2 := hide ((unhide Y2).later hbx)
  replace HT := hide ((unhide HT).later hbx)
  replace Aa := hide ((unhide Aa).later hbx)
  replace Ab := hide ((unhide Ab).later hbx)
  replace As := hide ((unhide As).later hbx)
  replace Aw := hide ((unhide Aw).later hbx)
  replace Ad := hide ((unhide Ad).later hbx)
  replace Av := hide ((unhide Av).later hbx)
  replace Ap := hide ((unhide Ap).later hbx)
  replace Au := hide ((unhide Au).later hbx)
  replace Ak := hide ((unhide Ak).later hbx)
  replace At := hide ((unhide At).later hbx)
  replace BW := hide (below_on (unhide BW) hbx)
  refine hK.out _ _ ⟨Ks_0, Ks_1, Ks_2, Ks_3, Kw_0, Kw_1, Kw_2, Kw_3, Kd_0, Kd_1, Kd_2, Kd_3, Kv_0, Kv_1, Kv_2, Kv_3, Kp_0, Kp_1, Kp_2, Kp_3, Ku_0, Ku_1, Ku_2, Ku_3, Kk_0, Kk_1, Kk_2, Kk_3, Kt_0, Kt_1, Kt_2, Kt_3, Ka_0, Ka_1, Ka_2, Ka_3⟩ (fun hHeld2 => ?_)
  clear hK K hb1 hbx hHeld
  have hHeld := hHeld2
  clear hHeld2
  simp only [Act.put, List.setIfInBounds_toArray, List.set_cons_zero, List.set_cons_succ]
  refine wpAnyH_take (i := 7) (v := .bool false) rfl (by kernel_rfl) (by kernel_rfl) (by kernel_rfl) (fun _ _ _ h => h) (Or.inl ⟨by rfl, by intro w hSw; (try dsimp only at hSw); go_simp⟩) hHeld ?_
  simp only [List.getElem_toArray, List.getElem_cons_zero, List.getElem_cons_succ, Act.put, List.setIfInBounds_toArray, List.set_cons_zero, List.set_cons_succ]
  refine wpAnyH_take (i := 8) (v := .bool false) rfl (by kernel_rfl) (by kernel_rfl) (by kernel_rfl) (fun _ _ _ h => h) (Or.inl ⟨by rfl, by intro w hSw; (try dsimp only at hSw); go_simp⟩) hHeld ?_
  simp only [List.getElem_toArray, List.getElem_cons_zero, List.getElem_cons_succ, Act.put, List.setIfInBounds_toArray, List.set_cons_zero, List.set_cons_succ]
  refine wpAnyH_take (i := 9) (v := .bool false) rfl (by kernel_rfl) (by kernel_rfl) (by kernel_rfl) (fun _ _ _ h => h) (Or.inl ⟨by rfl, by intro w hSw; (try dsimp only at hSw); go_simp⟩) hHeld ?_
  simp only [List.getElem_toArray, List.getElem_cons_zero, List.getElem_cons_succ, Act.put, List.setIfInBounds_toArray, List.set_cons_zero, List.set_cons_succ]
  refine wpAnyH_take (i := 10) (v := .bool one) rfl (by kernel_rfl) (by kernel_rfl) (by kernel_rfl) (fun _ _ _ h => h) (Or.inl ⟨by rfl, by intro w hSw; (try dsimp only at hSw); go_simp⟩) hHeld ?_
  simp only [List.getElem_toArray, List.getElem_cons_zero, List.getElem_cons_succ, Act.put, List.setIfInBounds_toArray, List.set_cons_zero, List.set_cons_succ]
  refine wpAnyH_take (i := 11) (v := .bool one) rfl (by kernel_rfl) (by kernel_rfl) (by kernel_rfl) (fun _ _ _ h => h) (Or.inl ⟨by rfl, by intro w hSw; (try dsimp only at hSw); go_simp⟩) hHeld ?_
  simp only [List.getElem_toArray, List.getElem_cons_zero, List.getElem_cons_succ, Act.put, List.setIfInBounds_toArray, List.set_cons_zero, List.set_cons_succ]
  refine wpAnyH_take (i := 12) (v := .bool false) rfl (by kernel_rfl) (by kernel_rfl) (by kernel_rfl) (fun _ _ _ h => h) (Or.inl ⟨by rfl, by intro w hSw; (try dsimp only at hSw); go_simp⟩) hHeld ?_
  simp only [List.getElem_toArray, List.getElem_cons_zero, List.getElem_cons_succ, Act.put, List.setIfInBounds_toArray, List.set_cons_zero, List.set_cons_succ]
  refine wpAnyH_take (i := 13) (v := .bool false) rfl (by kernel_rfl) (by kernel_rfl) (by kernel_rfl) (fun _ _ _ h => h) (Or.inl ⟨by rfl, by intro w hSw; (try dsimp only at hSw); go_simp⟩) hHeld ?_
  simp only [List.getElem_toArray, List.getElem_cons_zero, List.getElem_cons_succ, Act.put, List.setIfInBounds_toArray, List.set_cons_zero, List.set_cons_succ]
  refine wpAnyH_take (i := 14) (v := .bool false) rfl (by kernel_rfl) (by kernel_rfl) (by kernel_rfl) (fun _ _ _ h => h) (Or.inl ⟨by rfl, by intro w hSw; (try dsimp only at hSw); go_simp⟩) hHeld ?_
  simp only [List.getElem_toArray, List.getElem_cons_zero, List.getElem_cons_succ, Act.put, List.setIfInBounds_toArray, List.set_cons_zero, List.set_cons_succ]
  refine wpAnyH_take (i := 15) (v := .agg #[.bool vd.num.g, .slice vd.num.a vd.num.n vd.num.c, .bool vd.den.g, .slice vd.den.a vd.den.n vd.den.c]) rfl (by kernel_rfl) (by kernel_rfl) (by kernel_rfl) (fun _ _ _ h => h) (Or.inl ⟨by rfl, by intro w hSw; (try dsimp only at hSw); go_simp⟩) hHeld ?_
  simp only [List.getElem_toArray, List.getElem_cons_zero, List.getElem_cons_succ, Act.put, List.setIfInBounds_toArray, List.set_cons_zero, List.set_cons_succ]
  refine wpAnyH_take (i := 16) (v := .agg #[.bool vv.num.g, .slice vv.num.a vv.num.n vv.num.c, .bool vv.den.g, .slice vv.den.a vv.den.n vv.den.c]) rfl (by kernel_rfl) (by kernel_rfl) (by kernel_rfl) (fun _ _ _ h => h) (Or.inl ⟨by rfl, by intro w hSw; (try dsimp only at hSw); go_simp⟩) hHeld ?_
  simp only [List.getElem_toArray, List.getElem_cons_zero, List.getElem_cons_succ, Act.put, List.setIfInBounds_toArray, List.set_cons_zero, List.set_cons_succ]
  refine wpAnyH_ready (rs := [17]) (by kernel_rfl) (by simp) (AllReadyH.cons rfl (fun K hK => ?_) AllReadyH.nil)
  go_simp
  refine (Aq.sameQ vd vv dd _ (unhide Ad) (unhide Av) (by have := (unhide LD).1; omega) (by have := (unhide LD).2; omega)).mono ?_
  rintro e wc1 ⟨rfl, hb1⟩
  have hbx := hb1
  replace Ks_0 := cell_later hbx Ks_0
  replace Ks_1 := cell_later hbx Ks_1
  replace Ks_2 := cell_later hbx Ks_2
  replace Ks_3 := cell_later hbx Ks_3
  replace Kw_0 := cell_later hbx Kw_0
  replace Kw_1 := cell_later hbx Kw_1
  replace Kw_2 := cell_later hbx Kw_2
  replace Kw_3 := cell_later hbx Kw_3
  replace Kd_0 := cell_later hbx Kd_0
  replace Kd_1 := cell_later hbx Kd_1
  replace Kd_2 := cell_later hbx Kd_2
  replace Kd_3 := cell_later hbx Kd_3
  replace Kv_0 := cell_later hbx Kv_0
  replace Kv_1 := cell_later hbx Kv_1
  replace Kv_2 := cell_later hbx Kv_2
  replace Kv_3 := cell_later hbx Kv_3
  replace Kp_0 := cell_later hbx Kp_0
  replace Kp_1 := cell_later hbx Kp_1
  replace Kp_2 := cell_later hbx Kp_2
  replace Kp_3 := cell_later hbx Kp_3
  replace Ku_0 := cell_later hbx Ku_0
  replace Ku_1 := cell_later hbx Ku_1
  replace Ku_2 := cell_later hbx Ku_2
  replace Ku_3 := cell_later hbx Ku_3
  replace Kk_0 := cell_later hbx Kk_0
  replace Kk_1 := cell_later hbx Kk_1
  replace Kk_2 := cell_later hbx Kk_2
  replace Kk_3 := cell_later hbx Kk_3
  replace Kt_0 := cell_later hbx Kt_0
  replace Kt_1 := cell_later hbx Kt_1
  replace Kt_2 := cell_later hbx Kt_2
  replace Kt_3 := cell_later hbx Kt_3
  replace Ka_0 := cell_later hbx Ka_0
  replace Ka_1 := cell_later hbx Ka_1
  replace Ka_2 := cell_later hbx Ka_2
  replace Ka_3 := cell_later hbx Ka_3
  replace Ka := hide ((unhide Ka).later hbx)
  replace Kb := hide ((unhide Kb).later hbx)
  replace Ks := hide ((unhide Ks).later hbx)
  replace Kw := hide ((unhide Kw).later hbx)
  replace Kd := hide ((unhide Kd).later hbx)
  replace Kv := hide ((unhide Kv).later hbx)
  replace Kp := hide ((unhide Kp).later hbx)
  replace Ku := hide ((unhide Ku).later hbx)
  replace Kk := hide ((unhide Kk).later hbx)
  replace Kt := hide ((unhide Kt).later hbx)
  replace Y2 := hide ((unhide Y2).later hbx)
  replace HT := hide ((unhide HT).later hbx)
  replace Aa := hide ((unhide Aa).later hbx)
  replace Ab := hide ((unhide Ab).later hbx)
  replace As := hide ((unhide As).later hbx)
  replace Aw := hide ((unhide Aw).later hbx)
  replace Ad := hide ((unhide Ad).later hbx)
  replace Av := hide ((unhide Av).later hbx)
  replace Ap := hide ((unhide Ap).later hbx)
  replace Au := hide ((unhide Au).later hbx)
  replace Ak := hide ((unhide Ak).later hbx)
  replace At := hide ((unhide At).later hbx)
  replace BW := hide (below_on (unhide BW) hbx)
  refine hK.out _ _ ⟨Ks_0, Ks_1, Ks_2, Ks_3, Kw_0, Kw_1, Kw_2, Kw_3, Kd_0, Kd_1, Kd_2, Kd_3, Kv_0, Kv_1, Kv_2, Kv_3, Kp_0, Kp_1, Kp_2, Kp_3, Ku_0, Ku_1, Ku_2, Ku_3, Kk_0, Kk_1, Kk_2, Kk_3, Kt_0, Kt_1, Kt_2, Kt_3, Ka_0, Ka_1, Ka_2, Ka_3⟩ (fun hHeld2 => ?_)
  clear hK K hb1 hbx hHeld
  have hHeld := hHeld2
  clear hHeld2
  simp only [Act.put, List.setIfInBounds_toArray, List.set_cons_zero, List.set_cons_succ]
  refine wpAnyH_take (i := 18) (v := .bool false) rfl (by kernel_rfl) (by kernel_rfl) (by kernel_rfl) (fun _ _ _ h => h) (Or.inl ⟨by rfl, by intro w hSw; (try dsimp only at hSw); go_simp⟩) hHeld ?_
  simp only [List.getElem_toArray, List.getElem_cons_zero, List.getElem_cons_succ, Act.put, List.setIfInBounds_toArray, List.set_cons_zero, List.set_cons_succ]
  refine wpAnyH_take (i := 19) (v := .bool false) rfl (by kernel_rfl) (by kernel_rfl) (by kernel_rfl) (fun _ _ _ h => h) (Or.inl ⟨by rfl, by intro w hSw; (try dsimp only at hSw); go_simp⟩) hHeld ?_
  simp only [List.getElem_toArray, List.getElem_cons_zero, List.getElem_cons_succ, Act.put, List.setIfInBounds_toArray, List.set_cons_zero, List.set_cons_succ]
  refine wpAnyH_take (i := 20) (v := .bool false) rfl (by kernel_rfl) (by kernel_rfl) (by kernel_rfl) (fun _ _ _ h => h) (Or.inl ⟨by rfl, by intro w hSw; (try dsimp only at hSw); go_simp⟩) hHeld ?_
  simp only [List.getElem_toArray, List.getElem_cons_zero, List.getElem_cons_succ, Act.put, List.setIfInBounds_toArray, List.set_cons_zero, List.set_cons_succ]
  refine wpAnyH_take (i := 21) (v := .bool two) rfl (by kernel_rfl) (by kernel_rfl) (by kernel_rfl) (fun _ _ _ h => h) (Or.inl ⟨by rfl, by intro w hSw; (try dsimp only at hSw); go_simp⟩) hHeld ?_
  simp only [List.getElem_toArray, List.getElem_cons_zero, List.getElem_cons_succ, Act.put, List.setIfInBounds_toArray, List.set_cons_zero, List.set_cons_succ]
  refine wpAnyH_take (i := 22) (v := .bool two) rfl (by kernel_rfl) (by kernel_rfl) (by kernel_rfl) (fun _ _ _ h => h) (Or.inl ⟨by rfl, by intro w hSw; (try dsimp only at hSw); go_simp⟩) hHeld ?_
  simp only [List.getElem_toArray, List.getElem_cons_zero, List.getElem_cons_succ, Act.put, List.setIfInBounds_toArray, List.set_cons_zero, List.set_cons_succ]
  refine wpAnyH_take (i := 23) (v := .bool false) rfl (by kernel_rfl) (by kernel_rfl) (by kernel_rfl) (fun _ _ _ h => h) (Or.inl ⟨by rfl, by intro w hSw; (try dsimp only at hSw); go_simp⟩) hHeld ?_
  simp only [List.getElem_toArray, List.getElem_cons_zero, List.getElem_cons_succ, Act.put, List.setIfInBounds_toArray, List.set_cons_zero, List.set_cons_succ]
  refine wpAnyH_take (i := 24) (v := .bool false) rfl (by kernel_rfl) (by kernel_rfl) (by kernel_rfl) (fun _ _ _ h => h) (Or.inl ⟨by rfl, by intro w hSw; (try dsimp only at hSw); go_simp⟩) hHeld ?_
  simp only [List.getElem_toArray, List.getElem_cons_zero, List.getElem_cons_succ, Act.put, List.setIfInBounds_toArray, List.set_cons_zero, List.set_cons_succ]
  refine wpAnyH_take (i := 25) (v := .bool false) rfl (by kernel_rfl) (by kernel_rfl) (by kernel_rfl) (fun _ _ _ h => h) (Or.inl ⟨by rfl, by intro w hSw; (try dsimp only at hSw); go_simp⟩) hHeld ?_
  simp only [List.getElem_toArray, List.getElem_cons_zero, List.getElem_cons_succ, Act.put, List.setIfInBounds_toArray, List.set_cons_zero, List.set_cons_succ]
  refine wpAnyH_take (i := 26) (v := .agg #[.bool vp.num.g, .slice vp.num.a vp.num.n vp.num.c, .bool vp.den.g, .slice vp.den.a vp.den.n vp.den.c]) rfl (by kernel_rfl) (by kernel_rfl) (by kernel_rfl) (fun _ _ _ h => h) (Or.inl ⟨by rfl, by intro w hSw; (try dsimp only at hSw); go_simp⟩) hHeld ?_
  simp only [List.getElem_toArray, List.getElem_cons_zero, List.getElem_cons_succ, Act.put, List.setIfInBounds_toArray, List.set_cons_zero, List.set_cons_succ]
  refine wpAnyH_take (i := 27) (v := .agg #[.bool vu.num.g, .slice vu.num.a vu.num.n vu.num.c, .bool vu.den.g, .slice vu.den.a vu.den.n vu.den.c]) rfl (by kernel_rfl) (by kernel_rfl) (by kernel_rfl) (fun _ _ _ h => h) (Or.inl ⟨by rfl, by intro w hSw; (try dsimp only at hSw); go_simp⟩) hHeld ?_
  simp only [List.getElem_toArray, List.getElem_cons_zero, List.getElem_cons_succ, Act.put, List.setIfInBounds_toArray, List.set_cons_zero, List.set_cons_succ]
  refine wpAnyH_ready (rs := [28]) (by kernel_rfl) (by simp) (AllReadyH.cons rfl (fun K hK => ?_) AllReadyH.nil)
  go_simp
  refine (Aq.sameQ vp vu dp _ (unhide Ap) (unhide Au) (by have := (unhide LP).1; omega) (by have := (unhide LP).2; omega)).mono ?_
  rintro e wc2 ⟨rfl, hb1⟩
  have hbx := hb1
  replace Ks_0 := cell_later hbx Ks_0
  replace Ks_1 := cell_later hbx Ks_1
  replace Ks_2 := cell_later hbx Ks_2
  replace Ks_3 := cell_later hbx Ks_3
  replace Kw_0 := cell_later hbx Kw_0
  replace Kw_1 := cell_later hbx Kw_1
  replace Kw_2 := cell_later hbx Kw_2
  replace Kw_3 := cell_later hbx Kw_3
  replace Kd_0 := cell_later hbx Kd_0
  replace Kd_1 := cell_later hbx Kd_1
  replace Kd_2 := cell_later hbx Kd_2
  replace Kd_3 := cell_later hbx Kd_3
  replace Kv_0 := cell_later hbx Kv_0
  replace Kv_1 := cell_later hbx Kv_1
  replace Kv_2 := cell_later hbx Kv_2
  replace Kv_3 := cell_later hbx Kv_3
  replace Kp_0 := cell_later hbx Kp_0
  replace Kp_1 := cell_later hbx Kp_1
  replace Kp_2 := cell_later hbx Kp_2
  replace Kp_3 := cell_later hbx Kp_3
  replace Ku_0 := cell_later hbx Ku_0
  replace Ku_1 := cell_later hbx Ku_1
  replace Ku_2 := cell_later hbx Ku_2
  replace Ku_3 := cell_later hbx Ku_3
  replace Kk_0 := cell_later hbx Kk_0
  replace Kk_1 := cell_later hbx Kk_1
  replace Kk_2 := cell_later hbx Kk_2
  replace Kk_3 := cell_later hbx Kk_3
  replace Kt_0 := cell_later hbx Kt_0
  replace Kt_1 := cell_later hbx Kt_1
  replace Kt_2 := cell_later hbx Kt_2
  replace Kt_3 := cell_later hbx Kt_3
  replace Ka_0 := cell_later hbx Ka_0
  replace Ka_1 := cell_later hbx Ka_1
  replace Ka_2 := cell_later hbx Ka_2
  replace Ka_3 := cell_later hbx Ka_3
  replace Ka := hide ((unhide Ka).later hbx)
  replace Kb := hide ((unhide Kb).later hbx)
  replace Ks := hide ((unhide Ks).later hbx)
  replace Kw := hide ((unhide Kw).later hbx)
  replace Kd := hide ((unhide Kd).later hbx)
  replace Kv := hide ((unhide Kv).later hbx)
  replace Kp := hide ((unhide Kp).later hbx)
  replace Ku := hide ((unhide Ku).later hbx)
  replace Kk := hide ((unhide Kk).later hbx)
  replace Kt := hide ((unhide Kt).later hbx)
  replace Y2 := hide ((unhide Y2).later hbx)
  replace HT := hide ((unhide HT).later hbx)
  replace Aa := hide ((unhide Aa).later hbx)
  replace Ab := hide ((unhide Ab).later hbx)
  replace As := hide ((unhide As).later hbx)
  replace Aw := hide ((unhide Aw).later hbx)
  replace Ad := hide ((unhide Ad).later hbx)
  replace Av := hide ((unhide Av).later hbx)
  replace Ap := hide ((unhide Ap).later hbx)
  replace Au := hide ((unhide Au).later hbx)
  replace Ak := hide ((unhide Ak).later hbx)
  replace At := hide ((unhide At).later hbx)
  replace BW := hide (below_on (unhide BW) hbx)
  refine hK.out _ _ ⟨Ks_0, Ks_1, Ks_2, Ks_3, Kw_0, Kw_1, Kw_2, Kw_3, Kd_0, Kd_1, Kd_2, Kd_3, Kv_0, Kv_1, Kv_2, Kv_3, Kp_0, Kp_1, Kp_2, Kp_3, Ku_0, Ku_1, Ku_2, Ku_3, Kk_0, Kk_1, Kk_2, Kk_3, Kt_0, Kt_1, Kt_2, Kt_3, Ka_0, Ka_1, Ka_2, Ka_3⟩ (fun hHeld2 => ?_)
  clear hK K hb1 hbx hHeld
  have hHeld := hHeld2
  clear hHeld2
  simp only [Act.put, List.setIfInBounds_toArray, List.set_cons_zero, List.set_cons_succ]
  refine wpAnyH_take (i := 29) (v := .bool false) rfl (by kernel_rfl) (by kernel_rfl) (by kernel_rfl) (fun _ _ _ h => h) (Or.inl ⟨by rfl, by intro w hSw; (try dsimp only at hSw); go_simp⟩) hHeld ?_
  simp only [List.getElem_toArray, List.getElem_cons_zero, List.getElem_cons_succ, Act.put, List.setIfInBounds_toArray, List.set_cons_zero, List.set_cons_succ]
  refine wpAnyH_take (i := 30) (v := .bool false) rfl (by kernel_rfl) (by kernel_rfl) (by kernel_rfl) (fun _ _ _ h => h) (Or.inl ⟨by rfl, by intro w hSw; (try dsimp only at hSw); go_simp⟩) hHeld ?_
  simp only [List.getElem_toArray, List.getElem_cons_zero, List.getElem_cons_succ, Act.put, List.setIfInBounds_toArray, List.set_cons_zero, List.set_cons_succ]
  refine wpAnyH_take (i := 31) (v := .bool false) rfl (by kernel_rfl) (by kernel_rfl) (by kernel_rfl) (fun _ _ _ h => h) (Or.inl ⟨by rfl, by intro w hSw; (try dsimp only at hSw); go_simp⟩) hHeld ?_
  simp only [List.getElem_toArray, List.getElem_cons_zero, List.getElem_cons_succ, Act.put, List.setIfInBounds_toArray, List.set_cons_zero, List.set_cons_succ]
  refine wpAnyH_take (i := 32) (v := .bool three) rfl (by kernel_rfl) (by kernel_rfl) (by kernel_rfl) (fun _ _ _ h => h) (Or.inl ⟨by rfl, by intro w hSw; (try dsimp only at hSw); go_simp⟩) hHeld ?_
  simp only [List.getElem_toArray, List.getElem_cons_zero, List.getElem_cons_succ, Act.put, List.setIfInBounds_toArray, List.set_cons_zero, List.set_cons_succ]
  refine wpAnyH_take (i := 33) (v := .bool three) rfl (by kernel_rfl) (by kernel_rfl) (by kernel_rfl) (fun _ _ _ h => h) (Or.inl ⟨by rfl, by intro w hSw; (try dsimp only at hSw); go_simp⟩) hHeld ?_
  simp only [List.getElem_toArray, List.getElem_cons_zero, List.getElem_cons_succ, Act.put, List.setIfInBounds_toArray, List.set_cons_zero, List.set_cons_succ]
  refine wpAnyH_take (i := 34) (v := .bool false) rfl (by kernel_rfl) (by kernel_rfl) (by kernel_rfl) (fun _ _ _ h => h) (Or.inl ⟨by rfl, by intro w hSw; (try dsimp only at hSw); go_simp⟩) hHeld ?_
  simp only [List.getElem_toArray, List.getElem_cons_zero, List.getElem_cons_succ, Act.put, List.setIfInBounds_toArray, List.set_cons_zero, List.set_cons_succ]
  refine wpAnyH_take (i := 35) (v := .bool false) rfl (by kernel_rfl) (by kernel_rfl) (by kernel_rfl) (fun _ _ _ h => h) (Or.inl ⟨by rfl, by intro w hSw; (try dsimp only at hSw); go_simp⟩) hHeld ?_
  simp only [List.getElem_toArray, List.getElem_cons_zero, List.getElem_cons_succ, Act.put, List.setIfInBounds_toArray, List.set_cons_zero, List.set_cons_succ]
  refine wpAnyH_take (i := 36) (v := .bool false) rfl (by kernel_rfl) (by kernel_rfl) (by kernel_rfl) (fun _ _ _ h => h) (Or.inl ⟨by rfl, by intro w hSw; (try dsimp only at hSw); go_simp⟩) hHeld ?_
  simp only [List.getElem_toArray, List.getElem_cons_zero, List.getElem_cons_succ, Act.put, List.setIfInBounds_toArray, List.set_cons_zero, List.set_cons_succ]
  refine wpAnyH_take (i := 37) (v := .agg #[.bool vk.num.g, .slice vk.num.a vk.num.n vk.num.c, .bool vk.den.g, .slice vk.den.a vk.den.n vk.den.c]) rfl (by kernel_rfl) (by kernel_rfl) (by kernel_rfl) (fun _ _ _ h => h) (Or.inl ⟨by rfl, by intro w hSw; (try dsimp only at hSw); go_simp⟩) hHeld ?_
  simp only [List.getElem_toArray, List.getElem_cons_zero, List.getElem_cons_succ, Act.put, List.setIfInBounds_toArray, List.set_cons_zero, List.set_cons_succ]
  refine wpAnyH_take (i := 38) (v := .agg #[.bool vt.num.g, .slice vt.num.a vt.num.n vt.num.c, .bool vt.den.g, .slice vt.den.a vt.den.n vt.den.c]) rfl (by kernel_rfl) (by kernel_rfl) (by kernel_rfl) (fun _ _ _ h => h) (Or.inl ⟨by rfl, by intro w hSw; (try dsimp only at hSw); go_simp⟩) hHeld ?_
  simp only [List.getElem_toArray, List.getElem_cons_zero, List.getElem_cons_succ, Act.put, List.setIfInBounds_toArray, List.set_cons_zero, List.set_cons_succ]
  refine wpAnyH_ready (rs := [39]) (by kernel_rfl) (by simp) (AllReadyH.cons rfl (fun K hK => ?_) AllReadyH.nil)
  go_simp
  refine (Aq.sameQ vk vt dk _ (unhide Ak) (unhide At) (by have := (unhide LQ).1; omega) (by have := (unhide LQ).2; omega)).mono ?_
  rintro e wc3 ⟨rfl, hb1⟩
  have hbx := hb1
  replace Ks_0 := cell_later hbx Ks_0
  replace Ks_1 := cell_later hbx Ks_1
  replace Ks_2 := cell_later hbx Ks_2
  replace Ks_3 := cell_later hbx Ks_3
  replace Kw_0 := cell_later hbx Kw_0
  replace Kw_1 := cell_later hbx Kw_1
  replace Kw_2 := cell_later hbx Kw_2
  replace Kw_3 := cell_later hbx Kw_3
  replace Kd_0 := cell_later hbx Kd_0
  replace Kd_1 := cell_later hbx Kd_1
  replace Kd_2 := cell_later hbx Kd_2
  replace Kd_3 := cell_later hbx Kd_3
  replace Kv_0 := cell_later hbx Kv_0
  replace Kv_1 := cell_later hbx Kv_1
  replace Kv_2 := cell_later hbx Kv_2
  replace Kv_3 := cell_later hbx Kv_3
  replace Kp_0 := cell_later hbx Kp_0
  replace Kp_1 := cell_later hbx Kp_1
  replace Kp_2 := cell_later hbx Kp_2
  replace Kp_3 := cell_later hbx Kp_3
  replace Ku_0 := cell_later hbx Ku_0
  replace Ku_1 := cell_later hbx Ku_1
  replace Ku_2 := cell_later hbx Ku_2
  replace Ku_3 := cell_later hbx Ku_3
  replace Kk_0 := cell_later hbx Kk_0
  replace Kk_1 := cell_later hbx Kk_1
  replace Kk_2 := cell_later hbx Kk_2
  replace Kk_3 := cell_later hbx Kk_3
  replace Kt_0 := cell_later hbx Kt_0
  replace Kt_1 := cell_later hbx Kt_1
  replace Kt_2 := cell_later hbx Kt_2
  replace Kt_3 := cell_later hbx Kt_3
  replace Ka_0 := cell_later hbx Ka_0
  replace Ka_1 := cell_later hbx Ka_1
  replace Ka_2 := cell_later hbx Ka_2
  replace Ka_3 := cell_later hbx Ka_3
  replace Ka := hide ((unhide Ka).later hbx)
  replace Kb := hide ((unhide Kb).later hbx)
  replace Ks := hide ((unhide Ks).later hbx)
  replace Kw := hide ((unhide Kw).later hbx)
  replace Kd := hide ((unhide Kd).later hbx)
  replace Kv := hide ((unhide Kv).later hbx)
  replace Kp := hide ((unhide Kp).later hbx)
  replace Ku := hide ((unhide Ku).later hbx)
  replace Kk := hide ((unhide Kk).later hbx)
  replace Kt := hide ((unhide Kt).later hbx)
  replace Y2 := hide ((unhide Y2).later hbx)
  replace HT := hide ((unhide HT).later hbx)
  replace Aa := hide ((unhide Aa).later hbx)
  replace Ab := hide ((unhide Ab).later hbx)
  replace As := hide ((unhide As).later hbx)
  replace Aw := hide ((unhide Aw).later hbx)
  replace Ad := hide ((unhide Ad).later hbx)
  replace Av := hide ((unhide Av).later hbx)
  replace Ap := hide ((unhide Ap).later hbx)
  replace Au := hide ((unhide Au).later hbx)
  replace Ak := hide ((unhide Ak).later hbx)
  replace At := hide ((unhide At).later hbx)
  replace BW := hide (below_on (unhide BW) hbx)
  refine hK.out _ _ ⟨Ks_0, Ks_1, Ks_2, Ks_3, Kw_0, Kw_1, Kw_2, Kw_3, Kd_0, Kd_1, Kd_2, Kd_3, Kv_0, Kv_1, Kv_2, Kv_3, Kp_0, Kp_1, Kp_2, Kp_3, Ku_0, Ku_1, Ku_2, Ku_3, Kk_0, Kk_1, Kk_2, Kk_3, Kt_0, Kt_1, Kt_2, Kt_3, Ka_0, Ka_1, Ka_2, Ka_3⟩ (fun hHeld2 => ?_)
  clear hK K hb1 hbx hHeld
  have hHeld := hHeld2
  clear hHeld2
  simp only [Act.put, List.setIfInBounds_toArray, List.set_cons_zero, List.set_cons_succ]
  refine wpAnyH_take (i := 40) (v := .bool false) rfl (by kernel_rfl) (by kernel_rfl) (by kernel_rfl) (fun _ _ _ h => h) (Or.inl ⟨by rfl, by intro w hSw; (try dsimp only at hSw); go_simp⟩) hHeld ?_
  simp only [List.getElem_toArray, List.getElem_cons_zero, List.getElem_cons_succ, Act.put, List.setIfInBounds_toArray, List.set_cons_zero, List.set_cons_succ]
  refine wpAnyH_take (i := 41) (v := .bool false) rfl (by kernel_rfl) (by kernel_rfl) (by kernel_rfl) (fun _ _ _ h => h) (Or.inl ⟨by rfl, by intro w hSw; (try dsimp only at hSw); go_simp⟩) hHeld ?_
  simp only [List.getElem_toArray, List.getElem_cons_zero, List.getElem_cons_succ, Act.put, List.setIfInBounds_toArray, List.set_cons_zero, List.set_cons_succ]
  refine wpAnyH_take (i := 42) (v := .bool false) rfl (by kernel_rfl) (by kernel_rfl) (by kernel_rfl) (fun _ _ _ h => h) (Or.inl ⟨by rfl, by intro w hSw; (try dsimp only at hSw); go_simp⟩) hHeld ?_
  simp only [List.getElem_toArray, List.getElem_cons_zero, List.getElem_cons_succ, Act.put, List.setIfInBounds_toArray, List.set_cons_zero, List.set_cons_succ]
  refine wpAnyH_take (i := 43) (v := .bool four) rfl (by kernel_rfl) (by kernel_rfl) (by kernel_rfl) (fun _ _ _ h => h) (Or.inl ⟨by rfl, by intro w hSw; (try dsimp only at hSw); go_simp⟩) hHeld ?_
  simp only [List.getElem_toArray, List.getElem_cons_zero, List.getElem_cons_succ, Act.put, List.setIfInBounds_toArray, List.set_cons_zero, List.set_cons_succ]
  refine wpAnyH_take (i := 44) (v := .bool four) rfl (by kernel_rfl) (by kernel_rfl) (by kernel_rfl) (fun _ _ _ h => h) (Or.inl ⟨by rfl, by intro w hSw; (try dsimp only at hSw); go_simp⟩) hHeld ?_
  simp only [List.getElem_toArray, List.getElem_cons_zero, List.getElem_cons_succ, Act.put, List.setIfInBounds_toArray, List.set_cons_zero, List.set_cons_succ]
  refine wpAnyH_take (i := 45) (v := .bool false) rfl (by kernel_rfl) (by kernel_rfl) (by kernel_rfl) (fun _ _ _ h => h) (Or.inl ⟨by rfl, by intro w hSw; (try dsimp only at hSw); go_simp⟩) hHeld ?_
  simp only [List.getElem_toArray, List.getElem_cons_zero, List.getElem_cons_succ, Act.put, List.setIfInBounds_toArray, List.set_cons_zero, List.set_cons_succ]
  refine wpAnyH_take (i := 46) (v := .bool false) rfl (by kernel_rfl) (by kernel_rfl) (by kernel_rfl) (fun _ _ _ h => h) (Or.inl ⟨by rfl, by intro w hSw; (try dsimp only at hSw); go_simp⟩) hHeld ?_
  simp only [List.getElem_toArray, List.getElem_cons_zero, List.getElem_cons_succ, Act.put, List.setIfInBounds_toArray, List.set_cons_zero, List.set_cons_succ]
  refine wpAnyH_take (i := 47) (v := .bool false) rfl (by kernel_rfl) (by kernel_rfl) (by kernel_rfl) (fun _ _ _ h => h) (Or.inl ⟨by rfl, by intro w hSw; (try dsimp only at hSw); go_simp⟩) hHeld ?_
  simp only [List.getElem_toArray, List.getElem_cons_zero, List.getElem_cons_succ, Act.put, List.setIfInBounds_toArray, List.set_cons_zero, List.set_cons_succ]
  refine wpAnyH_take (i := 48) (v := .int .i64 cv) rfl (by kernel_rfl) (by kernel_rfl) (by kernel_rfl) (fun _ _ _ h => h) (Or.inl ⟨by rfl, by intro w hSw; (try dsimp only at hSw); go_simp⟩) hHeld ?_
  simp only [List.getElem_toArray, List.getElem_cons_zero, List.getElem_cons_succ, Act.put, List.setIfInBounds_toArray, List.set_cons_zero, List.set_cons_succ]
  refine wpAnyH_take (i := 49) (v := .int .i64 cv) rfl (by kernel_rfl) (by kernel_rfl) (by kernel_rfl) (fun _ _ _ h => h) (Or.inl ⟨by rfl, by intro w hSw; (try dsimp only at hSw); go_simp⟩) hHeld ?_
  simp only [List.getElem_toArray, List.getElem_cons_zero, List.getElem_cons_succ, Act.put, List.setIfInBounds_toArray, List.set_cons_zero, List.set_cons_succ]
  refine wpAnyH_take (i := 50) (v := .bool false) rfl (by kernel_rfl) (by kernel_rfl) (by kernel_rfl) (fun _ _ _ h => h) (Or.inl ⟨by rfl, by intro w hSw; (try dsimp only at hSw); go_simp⟩) hHeld ?_
  simp only [List.getElem_toArray, List.getElem_cons_zero, List.getElem_cons_succ, Act.put, List.setIfInBounds_toArray, List.set_cons_zero, List.set_cons_succ]
  refine wpAnyH_take (i := 51) (v := .bool false) rfl (by kernel_rfl) (by kernel_rfl) (by kernel_rfl) (fun _ _ _ h => h) (Or.inl ⟨by rfl, by intro w hSw; (try dsimp only at hSw); go_simp⟩) hHeld ?_
  simp only [List.getElem_toArray, List.getElem_cons_zero, List.getElem_cons_succ, Act.put, List.setIfInBounds_toArray, List.set_cons_zero, List.set_cons_succ]
  refine wpAnyH_take (i := 52) (v := .bool false) rfl (by kernel_rfl) (by kernel_rfl) (by kernel_rfl) (fun _ _ _ h => h) (Or.inl ⟨by rfl, by intro w hSw; (try dsimp only at hSw); go_simp⟩) hHeld ?_
  simp only [List.getElem_toArray, List.getElem_cons_zero, List.getElem_cons_succ, Act.put, List.setIfInBounds_toArray, List.set_cons_zero, List.set_cons_succ]
  refine wpAnyH_take (i := 53) (v := .agg #[.bool va.num.g, .slice va.num.a va.num.n va.num.c, .bool va.den.g, .slice va.den.a va.den.n va.den.c]) rfl (by kernel_rfl) (by kernel_rfl) (by kernel_rfl) (fun _ _ _ h => h) (Or.inl ⟨by rfl, by intro w hSw; (try dsimp only at hSw); go_simp⟩) hHeld ?_
  simp only [List.getElem_toArray, List.getElem_cons_zero, List.getElem_cons_succ, Act.put, List.setIfInBounds_toArray, List.set_cons_zero, List.set_cons_succ]
  refine wpAnyH_take (i := 55) (v := .agg #[.bool va.num.g, .slice va.num.a va.num.n va.num.c, .bool va.den.g, .slice va.den.a va.den.n va.den.c]) rfl (by kernel_rfl) (by kernel_rfl) (by kernel_rfl) (fun _ _ _ h => h) (Or.inl ⟨by rfl, by intro w hSw; (try dsimp only at hSw); go_simp⟩) hHeld ?_
  simp only [List.getElem_toArray, List.getElem_cons_zero, List.getElem_cons_succ, Act.put, List.setIfInBounds_toArray, List.set_cons_zero, List.set_cons_succ]
  refine wpAnyH_ready (rs := [54]) (by kernel_rfl) (by simp) (AllReadyH.cons rfl (fun K hK => ?_) AllReadyH.nil)
  go_simp
  refine (unhide CGI _ (unhide Aa)).mono ?_
  rintro e wg_ ⟨rfl, hb1⟩
  have hbx := hb1
  replace Ks_0 := cell_later hbx Ks_0
  replace Ks_1 := cell_later hbx Ks_1
  replace Ks_2 := cell_later hbx Ks_2
  replace Ks_3 := cell_later hbx Ks_3
  replace Kw_0 := cell_later hbx Kw_0
  replace Kw_1 := cell_later hbx Kw_1
  replace Kw_2 := cell_later hbx Kw_2
  replace Kw_3 := cell_later hbx Kw_3
  replace Kd_0 := cell_later hbx Kd_0
  replace Kd_1 := cell_later hbx Kd_1
  replace Kd_2 := cell_later hbx Kd_2
  replace Kd_3 := cell_later hbx Kd_3
  replace Kv_0 := cell_later hbx Kv_0
  replace Kv_1 := cell_later hbx Kv_1
  replace Kv_2 := cell_later hbx Kv_2
  replace Kv_3 := cell_later hbx Kv_3
  replace Kp_0 := cell_later hbx Kp_0
  replace Kp_1 := cell_later hbx Kp_1
  replace Kp_2 := cell_later hbx Kp_2
  replace Kp_3 := cell_later hbx Kp_3
  replace Ku_0 := cell_later hbx Ku_0
  replace Ku_1 := cell_later hbx Ku_1
  replace Ku_2 := cell_later hbx Ku_2
  replace Ku_3 := cell_later hbx Ku_3
  replace Kk_0 := cell_later hbx Kk_0
  replace Kk_1 := cell_later hbx Kk_1
  replace Kk_2 := cell_later hbx Kk_2
  replace Kk_3 := cell_later hbx Kk_3
  replace Kt_0 := cell_later hbx Kt_0
  replace Kt_1 := cell_later hbx Kt_1
  replace Kt_2 := cell_later hbx Kt_2
  replace Kt_3 := cell_later hbx Kt_3
  replace Ka_0 := cell_later hbx Ka_0
  replace Ka_1 := cell_later hbx Ka_1
  replace Ka_2 := cell_later hbx Ka_2
  replace Ka_3 := cell_later hbx Ka_3
  replace Ka := hide ((unhide Ka).later hbx)
  replace Kb := hide ((unhide Kb).later hbx)
  replace Ks := hide ((unhide Ks).later hbx)
  replace Kw := hide ((unhide Kw).later hbx)
  replace Kd := hide ((unhide Kd).later hbx)
  replace Kv := hide ((unhide Kv).later hbx)
  replace Kp := hide ((unhide Kp).later hbx)
  replace Ku := hide ((unhide Ku).later hbx)
  replace Kk := hide ((unhide Kk).later hbx)
  replace Kt := hide ((unhide Kt).later hbx)
  replace Y2 := hide ((unhide Y2).later hbx)
  replace HT := hide ((unhide HT).later hbx)
  replace Aa := hide ((unhide Aa).later hbx)
  replace Ab := hide ((unhide Ab).later hbx)
  replace As := hide ((unhide As).later hbx)
  replace Aw := hide ((unhide Aw).later hbx)
  replace Ad := hide ((unhide Ad).later hbx)
  replace Av := hide ((unhide Av).later hbx)
  replace Ap := hide ((unhide Ap).later hbx)
  replace Au := hide ((unhide Au).later hbx)
  replace Ak := hide ((unhide Ak).later hbx)
  replace At := hide ((unhide At).later hbx)
  replace BW := hide (below_on (unhide BW) hbx)
  refine hK.out _ _ ⟨Ks_0, Ks_1, Ks_2, Ks_3, Kw_0, Kw_1, Kw_2, Kw_3, Kd_0, Kd_1, Kd_2, Kd_3, Kv_0, Kv_1, Kv_2, Kv_3, Kp_0, Kp_1, Kp_2, Kp_3, Ku_0, Ku_1, Ku_2, Ku_3, Kk_0, Kk_1, Kk_2, Kk_3, Kt_0, Kt_1, Kt_2, Kt_3, Ka_0, Ka_1, Ka_2, Ka_3⟩ (fun hHeld2 => ?_)
  clear hK K hb1 hbx hHeld
  have hHeld := hHeld2
  clear hHeld2
  simp only [Act.put, List.setIfInBounds_toArray, List.set_cons_zero, List.set_cons_succ]
  refine wpAnyH_ready (rs := [56]) (by kernel_rfl) (by simp) (AllReadyH.cons rfl (fun K hK => ?_) AllReadyH.nil)
  go_simp
  refine (unhide CGS _ (unhide Aa)).mono ?_
  rintro e wh_ ⟨rfl, hb1⟩
  have hbx := hb1
  replace Ks_0 := cell_later hbx Ks_0
  replace Ks_1 := cell_later hbx Ks_1
  replace Ks_2 := cell_later hbx Ks_2
  replace Ks_3 := cell_later hbx Ks_3
  replace Kw_0 := cell_later hbx Kw_0
  replace Kw_1 := cell_later hbx Kw_1
  replace Kw_2 := cell_later hbx Kw_2
  replace Kw_3 := cell_later hbx Kw_3
  replace Kd_0 := cell_later hbx Kd_0
  replace Kd_1 := cell_later hbx Kd_1
  replace Kd_2 := cell_later hbx Kd_2
  replace Kd_3 := cell_later hbx Kd_3
  replace Kv_0 := cell_later hbx Kv_0
  replace Kv_1 := cell_later hbx Kv_1
  replace Kv_2 := cell_later hbx Kv_2
  replace Kv_3 := cell_later hbx Kv_3
  replace Kp_0 := cell_later hbx Kp_0
  replace Kp_1 := cell_later hbx Kp_1
  replace Kp_2 := cell_later hbx Kp_2
  replace Kp_3 := cell_later hbx Kp_3
  replace Ku_0 := cell_later hbx Ku_0
  replace Ku_1 := cell_later hbx Ku_1
  replace Ku_2 := cell_later hbx Ku_2
  replace Ku_3 := cell_later hbx Ku_3
  replace Kk_0 := cell_later hbx Kk_0
  replace Kk_1 := cell_later hbx Kk_1
  replace Kk_2 := cell_later hbx Kk_2
  replace Kk_3 := cell_later hbx Kk_3
  replace Kt_0 := cell_later hbx Kt_0
  replace Kt_1 := cell_later hbx Kt_1
  replace Kt_2 := cell_later hbx Kt_2
  replace Kt_3 := cell_later hbx Kt_3
  replace Ka_0 := cell_later hbx Ka_0
  replace Ka_1 := cell_later hbx Ka_1
  replace Ka_2 := cell_later hbx Ka_2
  replace Ka_3 := cell_later hbx Ka_3
  replace Ka := hide ((unhide Ka).later hbx)
  replace Kb := hide ((unhide Kb).later hbx)
  replace Ks := hide ((unhide Ks).later hbx)
  replace Kw := hide ((unhide Kw).later hbx)
  replace Kd := hide ((unhide Kd).later hbx)
  replace Kv := hide ((unhide Kv).later hbx)
  replace Kp := hide ((unhide Kp).later hbx)
  replace Ku := hide ((unhide Ku).later hbx)
  replace Kk := hide ((unhide Kk).later hbx)
  replace Kt := hide ((unhide Kt).later hbx)
  replace Y2 := hide ((unhide Y2).later hbx)
  replace HT := hide ((unhide HT).later hbx)
  replace Aa := hide ((unhide Aa).later hbx)
  replace Ab := hide ((unhide Ab).later hbx)
  replace As := hide ((unhide As).later hbx)
  replace Aw := hide ((unhide Aw).later hbx)
  replace Ad := hide ((unhide Ad).later hbx)
  replace Av := hide ((unhide Av).later hbx)
  replace Ap := hide ((unhide Ap).later hbx)
  replace Au := hide ((unhide Au).later hbx)
  replace Ak := hide ((unhide Ak).later hbx)
  replace At := hide ((unhide At).later hbx)
  replace BW := hide (below_on (unhide BW) hbx)
  refine hK.out _ _ ⟨Ks_0, Ks_1, Ks_2, Ks_3, Kw_0, Kw_1, Kw_2, Kw_3, Kd_0, Kd_1, Kd_2, Kd_3, Kv_0, Kv_1, Kv_2, Kv_3, Kp_0, Kp_1, Kp_2, Kp_3, Ku_0, Ku_1, Ku_2, Ku_3, Kk_0, Kk_1, Kk_2, Kk_3, Kt_0, Kt_1, Kt_2, Kt_3, Ka_0, Ka_1, Ka_2, Ka_3⟩ (fun hHeld2 => ?_)
  clear hK K hb1 hbx hHeld
  have hHeld := hHeld2
  clear hHeld2
  simp only [Act.put, List.setIfInBounds_toArray, List.set_cons_zero, List.set_cons_succ]
  refine wpAnyH_take (i := 57) (v := .bool false) rfl (by kernel_rfl) (by kernel_rfl) (by kernel_rfl) (fun _ _ _ h => h) (Or.inl ⟨by rfl, by intro w hSw; (try dsimp only at hSw); go_simp⟩) hHeld ?_
  simp only [List.getElem_toArray, List.getElem_cons_zero, List.getElem_cons_succ, Act.put, List.setIfInBounds_toArray, List.set_cons_zero, List.set_cons_succ]
  refine wpAnyH_take (i := 58) (v := .bool false) rfl (by kernel_rfl) (by kernel_rfl) (by kernel_rfl) (fun _ _ _ h => h) (Or.inl ⟨by rfl, by intro w hSw; (try dsimp only at hSw); go_simp⟩) hHeld ?_
  simp only [List.getElem_toArray, List.getElem_cons_zero, List.getElem_cons_succ, Act.put, List.setIfInBounds_toArray, List.set_cons_zero, List.set_cons_succ]
  refine wpAnyH_done (by kernel_rfl) ?_ _
  clear hHeld
  clear Ks_0 Ks_1 Ks_2 Ks_3 Kw_0 Kw_1 Kw_2 Kw_3 Kd_0 Kd_1 Kd_2 Kd_3 Kv_0 Kv_1 Kv_2 Kv_3 Kp_0 Kp_1 Kp_2 Kp_3 Ku_0 Ku_1 Ku_2 Ku_3 Kk_0 Kk_1 Kk_2 Kk_3 Kt_0 Kt_1 Kt_2 Kt_3 Ka_0 Ka_1 Ka_2 Ka_3
  clear CGI CGS x1 x2 x3 x4 x5 x6 x7 LP
  clear Kw Kv Aw Av Ku Kt Au At Kp Ap
  go_upto_region 16 with fail
  have FB0 : Hid (Below wh_.heap.size wh_ wh_) := hide (Below.refl _ _)
  go_cut [177] (fun v wx => v = .bool (ok && one) ∧ Hid (Below wh_.heap.size wh_ wx))
  case first => as_aux_lemma =>
    cases ok
    · skip
      go_wp2_with fail
      go_meet
      exact ⟨by simp, FB0⟩
    · cases one
      · skip
        go_wp2_with fail
        go_meet
        exact ⟨by simp, FB0⟩
      · skip
        go_wp2_with fail
        go_meet
        exact ⟨by simp, FB0⟩
  case rest => as_aux_lemma =>
    obtain ⟨rfl, hcut⟩ := hcut
    obtain ⟨w12, hwc⟩ : ∃ x, x = wc := ⟨_, rfl⟩
    subst hwc
    have hb := unhide hcut
    clear hcut FB0
    replace Ka := hide ((unhide Ka).later hb)
    replace Kb := hide ((unhide Kb).later hb)
    replace Ks := hide ((unhide Ks).later hb)
    replace Kd := hide ((unhide Kd).later hb)
    replace Kk := hide ((unhide Kk).later hb)
    replace Y2 := hide ((unhide Y2).later hb)
    replace HT := hide ((unhide HT).later hb)
    replace Aa := hide ((unhide Aa).later hb)
    replace Ab := hide ((unhide Ab).later hb)
    replace As := hide ((unhide As).later hb)
    replace Ad := hide ((unhide Ad).later hb)
    replace Ak := hide ((unhide Ak).later hb)
    replace BW := hide (below_on (unhide BW) hb)
    clear hb
    generalize hbo : (ok && one) = bo at *
    have HBO := hide (fun e : bo = true => (Bool.and_eq_true _ _).mp (hbo.trans e))
    clear hbo
    go_upto_if 177 with fail
    have FB1 : Hid (Below w12.heap.size w12 w12) := hide (Below.refl _ _)
    go_cut [] (fun wx => Hid (Below w12.heap.size w12 wx))
    case first => as_aux_lemma =>
      cases bo
      · skip
        go_wp2_with fail
        go_meet
        exact FB1
      · obtain ⟨eok, eone⟩ := unhide HBO (by simp)
        subst eok eone
        clear HBO
        have GS : Hid (∀ (w' : World), AllAr w' [(vs.num, ds.num), (vs.den, ds.den)] → Calls Tryz.prog 16 #[.agg #[.bool vs.num.g, .slice vs.num.a vs.num.n vs.num.c, .bool vs.den.g, .slice vs.den.a vs.den.n vs.den.c]] w' fun e w'' => e = .returned (.bool true) ∧ Below w'.heap.size w' w'') := hide (fun w' k => by have q := goodQI vs ds w' k; rw [Aq.good_sum (unhide NS)] at q; exact q)
        have bg : vd.num.g = decide (cv < 0) := (unhide Ad).head.sg.trans (unhide SG rfl)
        have x8 : (decide (cv < 0) != decide (cv < 0)) = false := by simp
        have BG := hide bg
        clear bg
        have Ks_0 := (unhide Ks).c0
        have Ks_1 := (unhide Ks).c1
        have Ks_2 := (unhide Ks).c2
        have Ks_3 := (unhide Ks).c3
        have Kb_0 := (unhide Kb).c0
        have Kb_1 := (unhide Kb).c1
        have Kb_2 := (unhide Kb).c2
        have Kb_3 := (unhide Kb).c3
        go_wp2_with fail
        refine (Aq.subQ_I vs vb ds db _ (unhide As) (unhide Ab)).mono ?_
        rintro e w13 ⟨vx, dx, okx, rfl, hb, ax, an⟩
        clear Ks_0 Ks_1 Ks_2 Ks_3 Kb_0 Kb_1 Kb_2 Kb_3
        replace Ka := hide ((unhide Ka).later hb)
        replace Kb := hide ((unhide Kb).later hb)
        replace Ks := hide ((unhide Ks).later hb)
        replace Kd := hide ((unhide Kd).later hb)
        replace Kk := hide ((unhide Kk).later hb)
        replace Y2 := hide ((unhide Y2).later hb)
        replace HT := hide ((unhide HT).later hb)
        replace Aa := hide ((unhide Aa).later hb)
        replace Ab := hide ((unhide Ab).later hb)
        replace As := hide ((unhide As).later hb)
        replace Ad := hide ((unhide Ad).later hb)
        replace Ak := hide ((unhide Ak).later hb)
        replace BW := hide (below_on (unhide BW) hb)
        replace FB1 := hide (below_on (unhide FB1) hb)
        clear hb
        have NX := hide an
        clear an
        have Ax := hide (ax)
        clear ax
        have al : Below w13.heap.size w13 (w13.alloc (.cells #[.bool vx.num.g, .slice vx.num.a vx.num.n vx.num.c, .bool vx.den.g, .slice vx.den.a vx.den.n vx.den.c] 27)) := (Below.refl _ _).alloc (Nat.le_refl _) _
        replace Ka := hide ((unhide Ka).later al)
        replace Kb := hide ((unhide Kb).later al)
        replace Ks := hide ((unhide Ks).later al)
        replace Kd := hide ((unhide Kd).later al)
        replace Kk := hide ((unhide Kk).later al)
        replace Y2 := hide ((unhide Y2).later al)
        replace HT := hide ((unhide HT).later al)
        replace Aa := hide ((unhide Aa).later al)
        replace Ab := hide ((unhide Ab).later al)
        replace As := hide ((unhide As).later al)
        replace Ad := hide ((unhide Ad).later al)
        replace Ak := hide ((unhide Ak).later al)
        replace Ax := hide ((unhide Ax).later al)
        replace BW := hide (below_on (unhide BW) al)
        replace FB1 := hide (below_on (unhide FB1) al)
        clear al
        have Kx : Hid (Aq.BxQ (w13.alloc (.cells #[.bool vx.num.g, .slice vx.num.a vx.num.n vx.num.c, .bool vx.den.g, .slice vx.den.a vx.den.n vx.den.c] 27)) w13.heap.size vx) := hide Aq.BxQ.new
        have Kd_0 := (unhide Kd).c0
        have Kd_1 := (unhide Kd).c1
        have Kd_2 := (unhide Kd).c2
        have Kd_3 := (unhide Kd).c3
        have Kb_0 := (unhide Kb).c0
        have Kb_1 := (unhide Kb).c1
        have Kb_2 := (unhide Kb).c2
        have Kb_3 := (unhide Kb).c3
        go_wp2_with fail
        refine (Aq.addQ_I vd vb dd db _ (unhide Ad) (unhide Ab)).mono ?_
        rintro e w14 ⟨vy, dy, oky, rfl, hb, ay, an⟩
        clear Kd_0 Kd_1 Kd_2 Kd_3 Kb_0 Kb_1 Kb_2 Kb_3
        replace Ka := hide ((unhide Ka).later hb)
        replace Kb := hide ((unhide Kb).later hb)
        replace Ks := hide ((unhide Ks).later hb)
        replace Kd := hide ((unhide Kd).later hb)
        replace Kk := hide ((unhide Kk).later hb)
        replace Kx := hide ((unhide Kx).later hb)
        replace Y2 := hide ((unhide Y2).later hb)
        replace HT := hide ((unhide HT).later hb)
        replace Aa := hide ((unhide Aa).later hb)
        replace Ab := hide ((unhide Ab).later hb)
        replace As := hide ((unhide As).later hb)
        replace Ad := hide ((unhide Ad).later hb)
        replace Ak := hide ((unhide Ak).later hb)
        replace Ax := hide ((unhide Ax).later hb)
        replace BW := hide (below_on (unhide BW) hb)
        replace FB1 := hide (below_on (unhide FB1) hb)
        clear hb
        have NY := hide an
        clear an
        have Ay := hide (ay)
        clear ay
        have al : Below w14.heap.size w14 (w14.alloc (.cells #[.bool vy.num.g, .slice vy.num.a vy.num.n vy.num.c, .bool vy.den.g, .slice vy.den.a vy.den.n vy.den.c] 27)) := (Below.refl _ _).alloc (Nat.le_refl _) _
        replace Ka := hide ((unhide Ka).later al)
        replace Kb := hide ((unhide Kb).later al)
        replace Ks := hide ((unhide Ks).later al)
        replace Kd := hide ((unhide Kd).later al)
        replace Kk := hide ((unhide Kk).later al)
        replace Kx := hide ((unhide Kx).later al)
        replace Y2 := hide ((unhide Y2).later al)
        replace HT := hide ((unhide HT).later al)
        replace Aa := hide ((unhide Aa).later al)
        replace Ab := hide ((unhide Ab).later al)
        replace As := hide ((unhide As).later al)
        replace Ad := hide ((unhide Ad).later al)
        replace Ak := hide ((unhide Ak).later al)
        replace Ax := hide ((unhide Ax).later al)
        replace Ay := hide ((unhide Ay).later al)
        replace BW := hide (below_on (unhide BW) al)
        replace FB1 := hide (below_on (unhide FB1) al)
        clear al
        have Ky : Hid (Aq.BxQ (w14.alloc (.cells #[.bool vy.num.g, .slice vy.num.a vy.num.n vy.num.c, .bool vy.den.g, .slice vy.den.a vy.den.n vy.den.c] 27)) w14.heap.size vy) := hide Aq.BxQ.new
        have Ks_0 := (unhide Ks).c0
        have Ks_1 := (unhide Ks).c1
        have Ks_2 := (unhide Ks).c2
        have Ks_3 := (unhide Ks).c3
        go_wp2_with fail
        refine (unhide GS _ (unhide As)).mono ?_
        rintro e w15 ⟨rfl, hb⟩
        clear Ks_0 Ks_1 Ks_2 Ks_3
        replace Ka := hide ((unhide Ka).later hb)
        replace Kb := hide ((unhide Kb).later hb)
        replace Ks := hide ((unhide Ks).later hb)
        replace Kd := hide ((unhide Kd).later hb)
        replace Kk := hide ((unhide Kk).later hb)
        replace Kx := hide ((unhide Kx).later hb)
        replace Ky := hide ((unhide Ky).later hb)
        replace Y2 := hide ((unhide Y2).later hb)
        replace HT := hide ((unhide HT).later hb)
        replace Aa := hide ((unhide Aa).later hb)
        replace Ab := hide ((unhide Ab).later hb)
        replace As := hide ((unhide As).later hb)
        replace Ad := hide ((unhide Ad).later hb)
        replace Ak := hide ((unhide Ak).later hb)
        replace Ax := hide ((unhide Ax).later hb)
        replace Ay := hide ((unhide Ay).later hb)
        replace BW := hide (below_on (unhide BW) hb)
        replace FB1 := hide (below_on (unhide FB1) hb)
        clear hb
        clear GS
        cases okx
        · skip
          cases oky
          · skip
            have Kd_0 := (unhide Kd).c0
            have Kd_1 := (unhide Kd).c1
            have Kd_2 := (unhide Kd).c2
            have Kd_3 := (unhide Kd).c3
            rw [unhide BG] at Kd_0
            go_wp2_with fail
            go_meet
            exact FB1
          · have e1 : dy = da := (fr_forth (unhide ND) (unhide NY)).2.2
            have LY := hide ((unhide NY).lens)
            clear NY
            subst e1
            have Ky_0 := (unhide Ky).c0
            have Ky_1 := (unhide Ky).c1
            have Ky_2 := (unhide Ky).c2
            have Ky_3 := (unhide Ky).c3
            have Ka_0 := (unhide Ka).c0
            have Ka_1 := (unhide Ka).c1
            have Ka_2 := (unhide Ka).c2
            have Ka_3 := (unhide Ka).c3
            go_wp2_with fail
            refine (Aq.sameQ vy va dy _ (unhide Ay) (unhide Aa) (by have := (unhide LY).1; omega) (by have := (unhide LY).2; omega)).mono ?_
            rintro e w16 ⟨rfl, hb⟩
            clear Ky_0 Ky_1 Ky_2 Ky_3 Ka_0 Ka_1 Ka_2 Ka_3
            replace Ka := hide ((unhide Ka).later hb)
            replace Kb := hide ((unhide Kb).later hb)
            replace Ks := hide ((unhide Ks).later hb)
            replace Kd := hide ((unhide Kd).later hb)
            replace Kk := hide ((unhide Kk).later hb)
            replace Kx := hide ((unhide Kx).later hb)
            replace Ky := hide ((unhide Ky).later hb)
            replace Y2 := hide ((unhide Y2).later hb)
            replace HT := hide ((unhide HT).later hb)
            replace Aa := hide ((unhide Aa).later hb)
            replace Ab := hide ((unhide Ab).later hb)
            replace As := hide ((unhide As).later hb)
            replace Ad := hide ((unhide Ad).later hb)
            replace Ak := hide ((unhide Ak).later hb)
            replace Ax := hide ((unhide Ax).later hb)
            replace Ay := hide ((unhide Ay).later hb)
            replace BW := hide (below_on (unhide BW) hb)
            replace FB1 := hide (below_on (unhide FB1) hb)
            clear hb
            have Kd_0 := (unhide Kd).c0
            have Kd_1 := (unhide Kd).c1
            have Kd_2 := (unhide Kd).c2
            have Kd_3 := (unhide Kd).c3
            rw [unhide BG] at Kd_0
            go_wp2_with fail
            go_meet
            exact FB1
        · have e0 : dx = da := (fr_back (unhide NS) (unhide NX)).2.2
          have LX := hide ((unhide NX).lens)
          clear NX
          subst e0
          have Kx_0 := (unhide Kx).c0
          have Kx_1 := (unhide Kx).c1
          have Kx_2 := (unhide Kx).c2
          have Kx_3 := (unhide Kx).c3
          have Ka_0 := (unhide Ka).c0
          have Ka_1 := (unhide Ka).c1
          have Ka_2 := (unhide Ka).c2
          have Ka_3 := (unhide Ka).c3
          go_wp2_with fail
          refine (Aq.sameQ vx va dx _ (unhide Ax) (unhide Aa) (by have := (unhide LX).1; omega) (by have := (unhide LX).2; omega)).mono ?_
          rintro e w17 ⟨rfl, hb⟩
          clear Kx_0 Kx_1 Kx_2 Kx_3 Ka_0 Ka_1 Ka_2 Ka_3
          replace Ka := hide ((unhide Ka).later hb)
          replace Kb := hide ((unhide Kb).later hb)
          replace Ks := hide ((unhide Ks).later hb)
          replace Kd := hide ((unhide Kd).later hb)
          replace Kk := hide ((unhide Kk).later hb)
          replace Kx := hide ((unhide Kx).later hb)
          replace Ky := hide ((unhide Ky).later hb)
          replace Y2 := hide ((unhide Y2).later hb)
          replace HT := hide ((unhide HT).later hb)
          replace Aa := hide ((unhide Aa).later hb)
          replace Ab := hide ((unhide Ab).later hb)
          replace As := hide ((unhide As).later hb)
          replace Ad := hide ((unhide Ad).later hb)
          replace Ak := hide ((unhide Ak).later hb)
          replace Ax := hide ((unhide Ax).later hb)
          replace Ay := hide ((unhide Ay).later hb)
          replace BW := hide (below_on (unhide BW) hb)
          replace FB1 := hide (below_on (unhide FB1) hb)
          clear hb
          cases oky
          · skip
            have Kd_0 := (unhide Kd).c0
            have Kd_1 := (unhide Kd).c1
            have Kd_2 := (unhide Kd).c2
            have Kd_3 := (unhide Kd).c3
            rw [unhide BG] at Kd_0
            go_wp2_with fail
            go_meet
            exact FB1
          · have e1 := (fr_forth (unhide ND) (unhide NY)).2.2
            replace Ay := hide (e1 ▸ unhide Ay)
            clear NY e1
            have Ky_0 := (unhide Ky).c0
            have Ky_1 := (unhide Ky).c1
            have Ky_2 := (unhide Ky).c2
            have Ky_3 := (unhide Ky).c3
            have Ka_0 := (unhide Ka).c0
            have Ka_1 := (unhide Ka).c1
            have Ka_2 := (unhide Ka).c2
            have Ka_3 := (unhide Ka).c3
            go_wp2_with fail
            refine (Aq.sameQ vy va dx _ (unhide Ay) (unhide Aa) (by have := (unhide LX).1; omega) (by have := (unhide LX).2; omega)).mono ?_
            rintro e w18 ⟨rfl, hb⟩
            clear Ky_0 Ky_1 Ky_2 Ky_3 Ka_0 Ka_1 Ka_2 Ka_3
            replace Ka := hide ((unhide Ka).later hb)
            replace Kb := hide ((unhide Kb).later hb)
            replace Ks := hide ((unhide Ks).later hb)
            replace Kd := hide ((unhide Kd).later hb)
            replace Kk := hide ((unhide Kk).later hb)
            replace Kx := hide ((unhide Kx).later hb)
            replace Ky := hide ((unhide Ky).later hb)
            replace Y2 := hide ((unhide Y2).later hb)
            replace HT := hide ((unhide HT).later hb)
            replace Aa := hide ((unhide Aa).later hb)
            replace Ab := hide ((unhide Ab).later hb)
            replace As := hide ((unhide As).later hb)
            replace Ad := hide ((unhide Ad).later hb)
            replace Ak := hide ((unhide Ak).later hb)
            replace Ax := hide ((unhide Ax).later hb)
            replace Ay := hide ((unhide Ay).later hb)
            replace BW := hide (below_on (unhide BW) hb)
            replace FB1 := hide (below_on (unhide FB1) hb)
            clear hb
            have Kd_0 := (unhide Kd).c0
            have Kd_1 := (unhide Kd).c1
            have Kd_2 := (unhide Kd).c2
            have Kd_3 := (unhide Kd).c3
            rw [unhide BG] at Kd_0
            go_wp2_with fail
            go_meet
            exact FB1
    case rest => as_aux_lemma =>
      obtain hcut := hcut
      obtain ⟨w19, hwc⟩ : ∃ x, x = wc := ⟨_, rfl⟩
      subst hwc
      have hb := unhide hcut
      clear hcut FB1
      replace Ka := hide ((unhide Ka).later hb)
      replace Kb := hide ((unhide Kb).later hb)
      replace Ks := hide ((unhide Ks).later hb)
      replace Kd := hide ((unhide Kd).later hb)
      replace Kk := hide ((unhide Kk).later hb)
      replace Y2 := hide ((unhide Y2).later hb)
      replace HT := hide ((unhide HT).later hb)
      replace Aa := hide ((unhide Aa).later hb)
      replace Ab := hide ((unhide Ab).later hb)
      replace As := hide ((unhide As).later hb)
      replace Ad := hide ((unhide Ad).later hb)
      replace Ak := hide ((unhide Ak).later hb)
      replace BW := hide (below_on (unhide BW) hb)
      clear hb
      clear HBO
      clear NS ND SG LS LD
      clear Ks As Kd Ad
      go_upto_if 219 with fail
      have FB2 : Hid (Below w19.heap.size w19 w19) := hide (Below.refl _ _)
      go_cut [] (fun wx => Hid (Below w19.heap.size w19 wx))
      case first => as_aux_lemma =>
        cases three
        · skip
          go_wp2_with fail
          go_meet
          exact FB2
        · have GS : Hid (∀ (w' : World), AllAr w' [(vk.num, dk.num), (vk.den, dk.den)] → Calls Tryz.prog 16 #[.agg #[.bool vk.num.g, .slice vk.num.a vk.num.n vk.num.c, .bool vk.den.g, .slice vk.den.a vk.den.n vk.den.c]] w' fun e w'' => e = .returned (.bool true) ∧ Below w'.heap.size w' w'') := hide (fun w' k => by have q := goodQI vk dk w' k; rw [Aq.good_quo (unhide NQ)] at q; exact q)
          have Kk_0 := (unhide Kk).c0
          have Kk_1 := (unhide Kk).c1
          have Kk_2 := (unhide Kk).c2
          have Kk_3 := (unhide Kk).c3
          have Kb_0 := (unhide Kb).c0
          have Kb_1 := (unhide Kb).c1
          have Kb_2 := (unhide Kb).c2
          have Kb_3 := (unhide Kb).c3
          go_wp2_with fail
          refine (Aq.mulQ_I vk vb dk db _ (unhide Ak) (unhide Ab)).mono ?_
          rintro e w20 ⟨vx, dx, okx, rfl, hb, ax, an⟩
          clear Kk_0 Kk_1 Kk_2 Kk_3 Kb_0 Kb_1 Kb_2 Kb_3
          replace Ka := hide ((unhide Ka).later hb)
          replace Kb := hide ((unhide Kb).later hb)
          replace Kk := hide ((unhide Kk).later hb)
          replace Y2 := hide ((unhide Y2).later hb)
          replace HT := hide ((unhide HT).later hb)
          replace Aa := hide ((unhide Aa).later hb)
          replace Ab := hide ((unhide Ab).later hb)
          replace Ak := hide ((unhide Ak).later hb)
          replace BW := hide (below_on (unhide BW) hb)
          replace FB2 := hide (below_on (unhide FB2) hb)
          clear hb
          have NX := hide an
          clear an
          have Ax := hide (ax)
          clear ax
          have al : Below w20.heap.size w20 (w20.alloc (.cells #[.bool vx.num.g, .slice vx.num.a vx.num.n vx.num.c, .bool vx.den.g, .slice vx.den.a vx.den.n vx.den.c] 27)) := (Below.refl _ _).alloc (Nat.le_refl _) _
          replace Ka := hide ((unhide Ka).later al)
          replace Kb := hide ((unhide Kb).later al)
          replace Kk := hide ((unhide Kk).later al)
          replace Y2 := hide ((unhide Y2).later al)
          replace HT := hide ((unhide HT).later al)
          replace Aa := hide ((unhide Aa).later al)
          replace Ab := hide ((unhide Ab).later al)
          replace Ak := hide ((unhide Ak).later al)
          replace Ax := hide ((unhide Ax).later al)
          replace BW := hide (below_on (unhide BW) al)
          replace FB2 := hide (below_on (unhide FB2) al)
          clear al
          have Kx : Hid (Aq.BxQ (w20.alloc (.cells #[.bool vx.num.g, .slice vx.num.a vx.num.n vx.num.c, .bool vx.den.g, .slice vx.den.a vx.den.n vx.den.c] 27)) w20.heap.size vx) := hide Aq.BxQ.new
          have Kk_0 := (unhide Kk).c0
          have Kk_1 := (unhide Kk).c1
          have Kk_2 := (unhide Kk).c2
          have Kk_3 := (unhide Kk).c3
          go_wp2_with fail
          refine (unhide GS _ (unhide Ak)).mono ?_
          rintro e w21 ⟨rfl, hb⟩
          clear Kk_0 Kk_1 Kk_2 Kk_3
          replace Ka := hide ((unhide Ka).later hb)
          replace Kb := hide ((unhide Kb).later hb)
          replace Kk := hide ((unhide Kk).later hb)
          replace Kx := hide ((unhide Kx).later hb)
          replace Y2 := hide ((unhide Y2).later hb)
          replace HT := hide ((unhide HT).later hb)
          replace Aa := hide ((unhide Aa).later hb)
          replace Ab := hide ((unhide Ab).later hb)
          replace Ak := hide ((unhide Ak).later hb)
          replace Ax := hide ((unhide Ax).later hb)
          replace BW := hide (below_on (unhide BW) hb)
          replace FB2 := hide (below_on (unhide FB2) hb)
          clear hb
          clear GS
          cases okx
          · skip
            go_wp2_with fail
            go_meet
            exact FB2
          · have e0 : dx = da := (fr_times (unhide NQ) (unhide NX)).2.2
            have LX := hide ((unhide NX).lens)
            clear NX
            subst e0
            have Kx_0 := (unhide Kx).c0
            have Kx_1 := (unhide Kx).c1
            have Kx_2 := (unhide Kx).c2
            have Kx_3 := (unhide Kx).c3
            have Ka_0 := (unhide Ka).c0
            have Ka_1 := (unhide Ka).c1
            have Ka_2 := (unhide Ka).c2
            have Ka_3 := (unhide Ka).c3
            go_wp2_with fail
            refine (Aq.sameQ vx va dx _ (unhide Ax) (unhide Aa) (by have := (unhide LX).1; omega) (by have := (unhide LX).2; omega)).mono ?_
            rintro e w22 ⟨rfl, hb⟩
            clear Kx_0 Kx_1 Kx_2 Kx_3 Ka_0 Ka_1 Ka_2 Ka_3
            replace Ka := hide ((unhide Ka).later hb)
            replace Kb := hide ((unhide Kb).later hb)
            replace Kk := hide ((unhide Kk).later hb)
            replace Kx := hide ((unhide Kx).later hb)
            replace Y2 := hide ((unhide Y2).later hb)
            replace HT := hide ((unhide HT).later hb)
            replace Aa := hide ((unhide Aa).later hb)
            replace Ab := hide ((unhide Ab).later hb)
            replace Ak := hide ((unhide Ak).later hb)
            replace Ax := hide ((unhide Ax).later hb)
            replace BW := hide (below_on (unhide BW) hb)
            replace FB2 := hide (below_on (unhide FB2) hb)
            clear hb
            go_wp2_with fail
            go_meet
            exact FB2
      case rest => as_aux_lemma =>
        obtain hcut := hcut
        obtain ⟨w23, hwc⟩ : ∃ x, x = wc := ⟨_, rfl⟩
        subst hwc
        have hb := unhide hcut
        clear hcut FB2
        replace Ka := hide ((unhide Ka).later hb)
        replace Kb := hide ((unhide Kb).later hb)
        replace Kk := hide ((unhide Kk).later hb)
        replace Y2 := hide ((unhide Y2).later hb)
        replace HT := hide ((unhide HT).later hb)
        replace Aa := hide ((unhide Aa).later hb)
        replace Ab := hide ((unhide Ab).later hb)
        replace Ak := hide ((unhide Ak).later hb)
        replace BW := hide (below_on (unhide BW) hb)
        clear hb
        clear NQ LQ
        clear Kk Ak Ka Kb Aa Ab
        go_wp2_with fail
        refine (Aq.drawRO a' m c' _ (unhide Y2)).mono ?_
        rintro e w24 ⟨x, y, rfl, wx, wy, hb⟩
        replace Y2 := hide ((unhide Y2).later hb)
        replace HT := hide ((unhide HT).later hb)
        replace BW := hide (below_on (unhide BW) hb)
        clear hb
        have WX := hide wx
        have WY := hide wy
        clear wx wy
        go_wp2_with fail
        refine (Aq.ofQ_I x y _ (unhide WX) (unhide WY)).mono ?_
        rintro e w25 ⟨vr, dr, five, rfl, hb, ar, an⟩
        replace Y2 := hide ((unhide Y2).later hb)
        replace HT := hide ((unhide HT).later hb)
        replace BW := hide (below_on (unhide BW) hb)
        clear hb
        have NR := hide an
        clear an
        have Ar := hide (ar)
        clear ar
        have al : Below w25.heap.size w25 (w25.alloc (.cells #[.bool vr.num.g, .slice vr.num.a vr.num.n vr.num.c, .bool vr.den.g, .slice vr.den.a vr.den.n vr.den.c] 27)) := (Below.refl _ _).alloc (Nat.le_refl _) _
        replace Y2 := hide ((unhide Y2).later al)
        replace HT := hide ((unhide HT).later al)
        replace Ar := hide ((unhide Ar).later al)
        replace BW := hide (below_on (unhide BW) al)
        clear al
        have Kr : Hid (Aq.BxQ (w25.alloc (.cells #[.bool vr.num.g, .slice vr.num.a vr.num.n vr.num.c, .bool vr.den.g, .slice vr.den.a vr.den.n vr.den.c] 27)) w25.heap.size vr) := hide Aq.BxQ.new
        go_wp2_with fail
        refine (Aq.ofQ_S x y _ (unhide WX) (unhide WY)).mono ?_
        rintro e w26 ⟨vz, dz, six, rfl, hb, az, an⟩
        replace Kr := hide ((unhide Kr).later hb)
        replace Y2 := hide ((unhide Y2).later hb)
        replace HT := hide ((unhide HT).later hb)
        replace Ar := hide ((unhide Ar).later hb)
        replace BW := hide (below_on (unhide BW) hb)
        clear hb
        obtain ⟨ed, eo⟩ := AnsQ.same (unhide NR) an
        subst ed eo
        clear an
        have Az := hide (az)
        clear az
        have al : Below w26.heap.size w26 (w26.alloc (.cells #[.bool vz.num.g, .slice vz.num.a vz.num.n vz.num.c, .bool vz.den.g, .slice vz.den.a vz.den.n vz.den.c] 27)) := (Below.refl _ _).alloc (Nat.le_refl _) _
        replace Kr := hide ((unhide Kr).later al)
        replace Y2 := hide ((unhide Y2).later al)
        replace HT := hide ((unhide HT).later al)
        replace Ar := hide ((unhide Ar).later al)
        replace Az := hide ((unhide Az).later al)
        replace BW := hide (below_on (unhide BW) al)
        clear al
        have Kz : Hid (Aq.BxQ (w26.alloc (.cells #[.bool vz.num.g, .slice vz.num.a vz.num.n vz.num.c, .bool vz.den.g, .slice vz.den.a vz.den.n vz.den.c] 27)) w26.heap.size vz) := hide Aq.BxQ.new
        have LR := hide ((unhide NR).lens)
        have x1 : (five != five) = false := by simp
        have GR : Hid (five = true → ∀ (w' : World), AllAr w' [(vr.num, dr.num), (vr.den, dr.den)] → Calls Tryz.prog 16 #[.agg #[.bool vr.num.g, .slice vr.num.a vr.num.n vr.num.c, .bool vr.den.g, .slice vr.den.a vr.den.n vr.den.c]] w' fun e w'' => e = .returned (.bool true) ∧ Below w'.heap.size w' w'') := hide (fun hf w' k => by subst hf; have q := goodQI vr dr w' k; rw [Aq.good_of (unhide NR)] at q; exact q)
        clear NR WX WY
        have Kr_0 := (unhide Kr).c0
        have Kr_1 := (unhide Kr).c1
        have Kr_2 := (unhide Kr).c2
        have Kr_3 := (unhide Kr).c3
        have Kz_0 := (unhide Kz).c0
        have Kz_1 := (unhide Kz).c1
        have Kz_2 := (unhide Kz).c2
        have Kz_3 := (unhide Kz).c3
        go_wp2_with fail
        refine (Aq.sameQ vr vz dr _ (unhide Ar) (unhide Az) (by have := (unhide LR).1; omega) (by have := (unhide LR).2; omega)).mono ?_
        rintro e w27 ⟨rfl, hb⟩
        clear Kr_0 Kr_1 Kr_2 Kr_3 Kz_0 Kz_1 Kz_2 Kz_3
        replace Kr := hide ((unhide Kr).later hb)
        replace Kz := hide ((unhide Kz).later hb)
        replace Y2 := hide ((unhide Y2).later hb)
        replace HT := hide ((unhide HT).later hb)
        replace Ar := hide ((unhide Ar).later hb)
        replace Az := hide ((unhide Az).later hb)
        replace BW := hide (below_on (unhide BW) hb)
        clear hb
        clear Kz Az
        clear x1 LR
        go_wp2_with fail
        refine (Aq.drawTQ a' m c' _ (unhide Y2)).mono ?_
        rintro e w28 ⟨vi, di, rfl, oi, hb⟩
        replace Kr := hide ((unhide Kr).later hb)
        replace Y2 := hide ((unhide Y2).later hb)
        replace HT := hide ((unhide HT).later hb)
        replace Ar := hide ((unhide Ar).later hb)
        replace BW := hide (below_on (unhide BW) hb)
        clear hb
        have Ai := hide (oi.ar)
        clear oi
        have al : Below w28.heap.size w28 (w28.alloc (.cells #[.bool vi.num.g, .slice vi.num.a vi.num.n vi.num.c, .bool vi.den.g, .slice vi.den.a vi.den.n vi.den.c] 27)) := (Below.refl _ _).alloc (Nat.le_refl _) _
        replace Kr := hide ((unhide Kr).later al)
        replace Y2 := hide ((unhide Y2).later al)
        replace HT := hide ((unhide HT).later al)
        replace Ar := hide ((unhide Ar).later al)
        replace Ai := hide ((unhide Ai).later al)
        replace BW := hide (below_on (unhide BW) al)
        clear al
        have Ki : Hid (Aq.BxQ (w28.alloc (.cells #[.bool vi.num.g, .slice vi.num.a vi.num.n vi.num.c, .bool vi.den.g, .slice vi.den.a vi.den.n vi.den.c] 27)) w28.heap.size vi) := hide Aq.BxQ.new
        have Ki_0 := (unhide Ki).c0
        have Ki_1 := (unhide Ki).c1
        have Ki_2 := (unhide Ki).c2
        have Ki_3 := (unhide Ki).c3
        go_wp2_with fail
        refine (Aq.rtQ_I vi di _ (unhide Ai) (unhide HT)).mono ?_
        rintro e w29 ⟨rfl, hb⟩
        clear Ki_0 Ki_1 Ki_2 Ki_3
        replace Kr := hide ((unhide Kr).later hb)
        replace Ki := hide ((unhide Ki).later hb)
        replace Y2 := hide ((unhide Y2).later hb)
        replace HT := hide ((unhide HT).later hb)
        replace Ar := hide ((unhide Ar).later hb)
        replace Ai := hide ((unhide Ai).later hb)
        replace BW := hide (below_on (unhide BW) hb)
        clear hb
        have Ki_0 := (unhide Ki).c0
        have Ki_1 := (unhide Ki).c1
        have Ki_2 := (unhide Ki).c2
        have Ki_3 := (unhide Ki).c3
        go_wp2_with fail
        refine (Aq.rtQ_S vi di _ (unhide Ai)).mono ?_
        rintro e w30 ⟨rfl, hb⟩
        clear Ki_0 Ki_1 Ki_2 Ki_3
        replace Kr := hide ((unhide Kr).later hb)
        replace Ki := hide ((unhide Ki).later hb)
        replace Y2 := hide ((unhide Y2).later hb)
        replace HT := hide ((unhide HT).later hb)
        replace Ar := hide ((unhide Ar).later hb)
        replace Ai := hide ((unhide Ai).later hb)
        replace BW := hide (below_on (unhide BW) hb)
        clear hb
        generalize rtV di.num.g di.num.xs di.den.g di.den.xs = tt at *
        generalize gQ di = gg at *
        have y2 : (gg == gg) = true := by simp
        have y3 : (tt.toList == tt.toList) = true := by simp
        cases five
        · go_wp2_with fail
          go_ret
          exact ⟨rfl, unhide BW⟩
        · skip
          have Kr_0 := (unhide Kr).c0
          have Kr_1 := (unhide Kr).c1
          have Kr_2 := (unhide Kr).c2
          have Kr_3 := (unhide Kr).c3
          go_wp2_with fail
          refine (unhide GR (by simp) _ (unhide Ar)).mono ?_
          rintro e w31 ⟨rfl, hb⟩
          clear Kr_0 Kr_1 Kr_2 Kr_3
          replace Kr := hide ((unhide Kr).later hb)
          replace Ki := hide ((unhide Ki).later hb)
          replace Y2 := hide ((unhide Y2).later hb)
          replace HT := hide ((unhide HT).later hb)
          replace Ar := hide ((unhide Ar).later hb)
          replace Ai := hide ((unhide Ai).later hb)
          replace BW := hide (below_on (unhide BW) hb)
          clear hb
          go_wp2_with fail
          go_ret
          exact ⟨rfl, unhide BW⟩
end Go.Proofs.YtdgonpbponnnaaaGreatDoor

/- Pairs of numbers as they are drawn, and numbers for IntOf. No condition beyond those typed. -/
import Derived.Test.YtdgonpbponnnaaaDoorCurB
import Derived.Test.YtdgonpbponnnaaaDoorBigOfI
import Derived.Test.YtdgonpbponnnaaaDoorDivI
namespace Go.Proofs.YtdgonpbponnnaaaDoor
open Go.RowKit
set_option linter.unusedVariables false
set_option maxRecDepth 100000
set_option linter.unusedSimpArgs false

theorem ar_keep {w w' : World} {C lo hi : Nat} {l : List (BV × BD)} (h : AllOwn lo hi w l) (k : AllAr w l) (hb : But C (C + 1) w w') (hC : C < lo) : AllAr w' l := fun p hp =>
  ⟨(k p hp).sg, ⟨((h.but hb (.inr (by omega))).sl p hp).sl, (k p hp).ar.len, (k p hp).ar.cap, (k p hp).ar.top, (k p hp).ar.addr⟩⟩
/-- Two numbers' cells; all that was there stays. -/
def OutDD (w : World) (e : Ending) (w' : World) : Prop := ∃ (b1 b2 : BV) (d1 d2 : BD), e = .returned (.tuple #[.agg #[.bool b1.g, .slice b1.a b1.n b1.c], .agg #[.bool b2.g, .slice b2.a b2.n b2.c]]) ∧ AllAr w' [(b1, d1)] ∧ AllAr w' [(b2, d2)] ∧ AllOwn w.heap.size w'.heap.size w' [(b1, d1)] ∧ AllOwn w.heap.size w'.heap.size w' [(b2, d2)] ∧ d1.xs.length ≤ 42 ∧ d2.xs.length ≤ 42 ∧ Below w.heap.size w w'
theorem ar_keep2 {w w' : World} {lo hi lo' hi' : Nat} {l : List (BV × BD)} (h : AllOwn lo hi w l) (k : AllAr w l) (hb : But lo' hi' w w') (hd : hi' ≤ lo) : AllAr w' l := fun p hp =>
  ⟨(k p hp).sg, ⟨((h.but hb (.inr hd)).sl p hp).sl, (k p hp).ar.len, (k p hp).ar.cap, (k p hp).ar.top, (k p hp).ar.addr⟩⟩
theorem dd_fin {w W W' : World} {b1 b2 : BV} {d1 d2 : BD} {h1 h2 : Nat} (hb : But w.heap.size (w.heap.size + 2) W W') (bw : Below w.heap.size w W) (o1 : AllOwn (w.heap.size + 2) h1 W [(b1, d1)]) (a1 : AllAr W [(b1, d1)]) (o2 : AllOwn (w.heap.size + 2) h2 W [(b2, d2)]) (q1 : h1 ≤ W.heap.size) (q2 : h2 ≤ W.heap.size) (a2 : AllAr W [(b2, d2)]) (l1 : d1.xs.length ≤ 42) (l2 : d2.xs.length ≤ 42) :
    OutDD w (.returned (.tuple #[.agg #[.bool b1.g, .slice b1.a b1.n b1.c], .agg #[.bool b2.g, .slice b2.a b2.n b2.c]])) W' :=
  ⟨b1, b2, d1, d2, rfl, ar_keep2 o1 a1 hb (by omega), ar_keep2 o2 a2 hb (by omega), (o1.but hb (.inr (by omega))).wide (by omega) (Nat.le_trans q1 hb.size), (o2.but hb (.inr (by omega))).wide (by omega) (Nat.le_trans q2 hb.size), l1, l2, hb.below bw (Nat.le_refl _) bw.size⟩
theorem two_set {W : World} {R : Nat} {x0 x1 x2 x3 : Value} : But R (R + 2) W ((((W.setCell ⟨R, 0, none⟩ x0).setCell ⟨R, 1, none⟩ x1).setCell ⟨R + 1, 0, none⟩ x2).setCell ⟨R + 1, 1, none⟩ x3) :=
  ((((But.refl _ _ W).set (p := ⟨R, 0, none⟩) (Nat.le_refl _) (by show R < _; omega) _).set (p := ⟨R, 1, none⟩) (Nat.le_refl _) (by show R < _; omega) _).set (p := ⟨R + 1, 0, none⟩) (by show R ≤ R + 1; omega) (by show R + 1 < _; omega) _).set (p := ⟨R + 1, 1, none⟩) (by show R ≤ R + 1; omega) (by show R + 1 < _; omega) _
set_option maxHeartbeats 8000000 in
theorem drawCmp (a : Option Addr) (n c : Nat) (w : World) (h : ArY w a n) :
    Calls Tryd.prog 25 #[.slice a n c] w (OutDD w) := by
  have H := hide h
  clear h
  go_enter Tryd.func25, Tryd.ntmps25
  go_wp2_with fail
  have e0 : ((w.alloc (.cells #[.bool false, .slice none 0 0] 25)).alloc (.cells #[.bool false, .slice none 0 0] 25)).heap.size = w.heap.size + 2 := by simp
  have al : Below w.heap.size w ((w.alloc (.cells #[.bool false, .slice none 0 0] 25)).alloc (.cells #[.bool false, .slice none 0 0] 25)) := ((Below.refl _ _).alloc (Nat.le_refl _) _).alloc (by simp) _
  have CU : Hid (Cur (w.heap.size + 2) 0 (((w.alloc (.cells #[.bool false, .slice none 0 0] 25)).alloc (.cells #[.bool false, .slice none 0 0] 25)).alloc (.cells #[.slice a n c, .int .i64 0, .int .u64 0] 51))) := hide (e0 ▸ Cur.new (w := ((w.alloc (.cells #[.bool false, .slice none 0 0] 25)).alloc (.cells #[.bool false, .slice none 0 0] 25))) (c := c) (t := 51) ((unhide H).later al))
  have al3 : Below ((w.alloc (.cells #[.bool false, .slice none 0 0] 25)).alloc (.cells #[.bool false, .slice none 0 0] 25)).heap.size ((w.alloc (.cells #[.bool false, .slice none 0 0] 25)).alloc (.cells #[.bool false, .slice none 0 0] 25)) (((w.alloc (.cells #[.bool false, .slice none 0 0] 25)).alloc (.cells #[.bool false, .slice none 0 0] 25)).alloc (.cells #[.slice a n c, .int .i64 0, .int .u64 0] 51)) := (Below.refl _ _).alloc (Nat.le_refl _) _
  have Z1 : Hid (Zb (((w.alloc (.cells #[.bool false, .slice none 0 0] 25)).alloc (.cells #[.bool false, .slice none 0 0] 25)).alloc (.cells #[.slice a n c, .int .i64 0, .int .u64 0] 51)) w.heap.size) := hide ((Zb.new.later ((Below.refl _ _).alloc (Nat.le_refl _) _)).later al3)
  have Z2 : Hid (Zb (((w.alloc (.cells #[.bool false, .slice none 0 0] 25)).alloc (.cells #[.bool false, .slice none 0 0] 25)).alloc (.cells #[.slice a n c, .int .i64 0, .int .u64 0] 51)) (w.heap.size + 1)) := hide ((by have k := Zb.new (w := (w.alloc (.cells #[.bool false, .slice none 0 0] 25))) (t := 25); simpa using k : Zb ((w.alloc (.cells #[.bool false, .slice none 0 0] 25)).alloc (.cells #[.bool false, .slice none 0 0] 25)) (w.heap.size + 1)).later al3)
  have BW : Hid (Below w.heap.size w (((w.alloc (.cells #[.bool false, .slice none 0 0] 25)).alloc (.cells #[.bool false, .slice none 0 0] 25)).alloc (.cells #[.slice a n c, .int .i64 0, .int .u64 0] 51))) := hide (al.trans (al3.mono (by omega)))
  have sz3 : (((w.alloc (.cells #[.bool false, .slice none 0 0] 25)).alloc (.cells #[.bool false, .slice none 0 0] 25)).alloc (.cells #[.slice a n c, .int .i64 0, .int .u64 0] 51)).heap.size = w.heap.size + 3 := by simp
  clear al al3 e0
  refine (big_v (w.heap.size + 2) 0 _ (unhide CU) (by omega)).mono ?_
  rintro e w1 ⟨b1, d1, rfl, o1, a1, l1, c1, bt⟩
  rw [sz3] at o1
  have CU1 := hide c1
  have ZZ1 := hide ((unhide Z1).keep bt (.inl (by omega)))
  have ZZ2 := hide ((unhide Z2).keep bt (.inl (by omega)))
  have BW1 : Hid (Below w.heap.size w w1) := hide (bt.below (unhide BW) (by omega) (by omega))
  have s1 : w.heap.size + 3 ≤ w1.heap.size := by have := bt.size; omega
  have O1 := hide o1
  have A1 := hide a1
  clear bt c1 o1 a1 CU Z1 Z2 BW sz3
  have al : Below w1.heap.size w1 (w1.alloc (.cells #[.bool b1.g, .slice b1.a b1.n b1.c] 25)) := (Below.refl _ _).alloc (Nat.le_refl _) _
  replace CU1 := hide ((unhide CU1).later al)
  replace ZZ1 := hide ((unhide ZZ1).later al)
  replace ZZ2 := hide ((unhide ZZ2).later al)
  replace BW1 := hide ((unhide BW1).trans (al.mono (by omega)))
  replace O1 := hide ((unhide O1).later al)
  replace A1 := hide ((unhide A1).later al)
  have k0 : (w1.alloc (.cells #[.bool b1.g, .slice b1.a b1.n b1.c] 25)).cell? ⟨w1.heap.size, 0, none⟩ = some (.bool b1.g) := by simp [go_sem]
  have k1 : (w1.alloc (.cells #[.bool b1.g, .slice b1.a b1.n b1.c] 25)).cell? ⟨w1.heap.size, 1, none⟩ = some (.slice b1.a b1.n b1.c) := by simp [go_sem]
  have sz2 : (w1.alloc (.cells #[.bool b1.g, .slice b1.a b1.n b1.c] 25)).heap.size = w1.heap.size + 1 := by simp
  clear al
  go_wp2_with fail
  refine (one_v (w.heap.size + 2) 300 4 _ (unhide CU1) (by omega) (by omega)).mono ?_
  rintro e w2 ⟨o2, rfl, c1, bt⟩
  replace CU1 := hide c1
  replace ZZ1 := hide ((unhide ZZ1).keep bt (.inl (by omega)))
  replace ZZ2 := hide ((unhide ZZ2).keep bt (.inl (by omega)))
  replace A1 := hide (ar_keep (unhide O1) (unhide A1) bt (by omega))
  replace O1 := hide ((unhide O1).but bt (.inr (by omega)))
  replace BW1 := hide (bt.below (unhide BW1) (by omega) (by omega))
  replace k0 := bt.cell k0 (.inr (by omega))
  replace k1 := bt.cell k1 (.inr (by omega))
  have s2 : w1.heap.size + 1 ≤ w2.heap.size := by have := bt.size; omega
  clear c1 bt sz2
  have r0 := (unhide ZZ1).c0
  have r1 := (unhide ZZ1).c1
  have rf := (unhide ZZ1).fz
  have t0 := (unhide ZZ2).c0
  have t1 := (unhide ZZ2).c1
  have tf := (unhide ZZ2).fz
  cases o2
  · have kd0 : w2.drew.cell? ⟨w1.heap.size, 0, none⟩ = some (.bool b1.g) := k0
    have kd1 : w2.drew.cell? ⟨w1.heap.size, 1, none⟩ = some (.slice b1.a b1.n b1.c) := k1
    go_upto_region 5 with fail
    go_region_with
      (first
      | (go_at_call 45; refine (big_v (w.heap.size + 2) 302 _ ((unhide CU1).later (Below.refl _ _).drew) (by omega)).mono ?_; rintro e w3 ⟨b2, d2, rfl, o2, a2, l2, c1, bt⟩; replace bt := (But.of_below (Below.refl w2.heap.size w2).drew).trans bt; have sd : w2.drew.heap.size = w2.heap.size := rfl; rw [sd] at o2; have ZY1 := hide ((unhide ZZ1).keep bt (.inl (by omega))); have ZY2 := hide ((unhide ZZ2).keep bt (.inl (by omega))); have A3 := hide (ar_keep (unhide O1) (unhide A1) bt (by omega)); have O3 := hide ((unhide O1).but bt (.inr (by omega))); have BW3 := hide (bt.below (unhide BW1) (by omega) (by omega)); have kk0 := bt.cell k0 (.inr (by omega)); have kk1 := bt.cell k1 (.inr (by omega)); have A4 := hide a2; have O4 := hide (o2.wide (show w.heap.size + 3 ≤ w2.heap.size by omega) (Nat.le_refl _)); have rr0 := (unhide ZY1).c0; have rr1 := (unhide ZY1).c1; have rrf := (unhide ZY1).fz; have tt0 := (unhide ZY2).c0; have tt1 := (unhide ZY2).c1; have ttf := (unhide ZY2).fz; have s3 := bt.size; clear bt c1 a2 o2 sd)
      | fail)
    all_goals go_wp2_with fail
    all_goals
      refine bodyPost_ret (v := .tuple #[.agg #[.bool b1.g, .slice b1.a b1.n b1.c], .agg #[.bool b2.g, .slice b2.a b2.n b2.c]]) (by simp [results, Tryd.results25, go_sem, rr0, rr1, tt0, tt1]) rfl ?_
      exact dd_fin two_set (unhide BW3) ((unhide O3).wide (by omega) (show w1.heap.size ≤ w3.heap.size by omega)) (unhide A3) ((unhide O4).wide (by omega) (Nat.le_refl _)) (Nat.le_refl _) (Nat.le_refl _) (unhide A4) l1 l2
  · go_upto_region 4 with fail
    go_region
    go_wp2_with fail
    refine bodyPost_ret (v := .tuple #[.agg #[.bool b1.g, .slice b1.a b1.n b1.c], .agg #[.bool b1.g, .slice b1.a b1.n b1.c]]) (by simp [results, Tryd.results25, go_sem, r0, r1, t0, t1]) rfl ?_
    exact dd_fin (two_set.trans (But.of_below (Below.refl _ _).drew)) (unhide BW1) ((unhide O1).wide (by omega) (show w1.heap.size ≤ w2.heap.size by omega)) (unhide A1) ((unhide O1).wide (by omega) (show w1.heap.size ≤ w2.heap.size by omega)) (Nat.le_refl _) (Nat.le_refl _) (unhide A1) l1 l1
theorem Nm.len4 {zs : List Int} {V : Int} (h : Nm zs V) (hV : V ≤ 9223372036854775808) : zs.length ≤ 4 :=
  h.le (W := [65535, 65535, 65535, 65535]) (by intro x hx; simp at hx; omega) rfl (by simp [val]; omega)
theorem wrap64_in (n : Int) : -9223372036854775808 ≤ wrap64 n ∧ wrap64 n ≤ 9223372036854775807 := by
  unfold wrap64
  omega
theorem cells11 (w : World) (l : List Int) (h : l.length = 11) (cs : Array Value) (hc : cs = (l.map (Value.int .i64)).toArray) : ∀ i, i < 11 → (w.alloc (.cells cs 3)).cell? ⟨w.heap.size, 0 + i, none⟩ = some (.int .i64 (l.getD i 0)) := by
  intro i hi
  subst hc
  rw [Nat.zero_add, List.getD_eq_getElem?_getD, List.getElem?_eq_getElem (by omega)]
  simp [go_sem, h, hi]
set_option maxHeartbeats 4000000 in
theorem anyInt_v (C T : Nat) (w : World) (h : Cur C T w) (hT : T ≤ 990000) :
    Calls Tryd.prog 37 #[.pointer (some ⟨C, 0, none⟩)] w fun e w' => ∃ x : Int, e = .returned (.int .i64 x) ∧ -9223372036854775808 ≤ x ∧ x ≤ 9223372036854775807 ∧ Cur C (T + 6) w' ∧ But C (C + 1) w w' := by
  have hCw := h.lt
  have HC := hide h
  clear h
  go_enter Tryd.func37, Tryd.ntmps37
  go_wp2_with fail
  refine (one_v C T 2 _ (unhide HC) (by omega) (by omega)).mono ?_
  rintro e w1 ⟨o1, rfl, c1, b1⟩
  have H1 := hide c1
  have HB := hide b1
  have s1 := b1.size
  clear c1 b1 HC
  cases o1
  · go_wp2_with fail
    refine (pick_v C _ 256 _ (unhide H1) (by omega) (by omega)).mono ?_
    rintro e w2 ⟨x, rfl, x0, x1, x2, c1, b1⟩
    replace x1 := x1 (by omega)
    have xw : IntKind.i64.wrap (x - 128) = x - 128 := by rw [IntKind.wrap_i64]; omega
    have H2 := hide c1
    replace HB := hide ((unhide HB).trans b1)
    clear c1 b1 H1
    go_wp2_with fail
    refine (pick_v C _ 50 _ (unhide H2) (by omega) (by omega)).mono ?_
    rintro e w3 ⟨y, rfl, y0, y1, y2, c1, b1⟩
    replace y1 := y1 (by omega)
    have H3 := hide c1
    replace HB := hide ((unhide HB).trans b1)
    have yw : IntKind.u64.wrap y = y := by rw [IntKind.wrap_u64]; omega
    clear c1 b1 H2
    go_wp2_with fail
    go_ret
    exact ⟨_, rfl, (wrap64_in _).1, (wrap64_in _).2, (unhide H3).mono (by omega), unhide HB⟩
  · go_wp2_with fail
    refine (among_v C _ w1.heap.size 0 11 11 [0, 1, -1, 65535, 65536, -65536, 4611686018427387904, -4611686018427387904, 4611686018427387905, -9223372036854775808, 9223372036854775807] _ ((unhide H1).later ((Below.refl _ _).alloc (Nat.le_refl _) _)) (by omega) (by omega) (by omega) rfl (by omega) (by simp) (cells11 _ _ rfl _ rfl)).mono ?_
    rintro e w2 ⟨x, rfl, hx, c1, b1⟩
    have hx2 : -9223372036854775808 ≤ x ∧ x ≤ 9223372036854775807 := by simp at hx; omega
    have H2 := hide c1
    replace HB := hide (((unhide HB).trans (al_but _)).trans b1)
    clear c1 b1 H1 hx
    go_wp2_with fail
    go_ret
    exact ⟨x, rfl, hx2.1, hx2.2, (unhide H2).mono (by omega), unhide HB⟩
/-- A number's cells; all that was there stays. -/
def OutD1 (w : World) (e : Ending) (w' : World) : Prop := ∃ (b : BV) (d : BD), e = .returned (.agg #[.bool b.g, .slice b.a b.n b.c]) ∧ AllAr w' [(b, d)] ∧ AllOwn w.heap.size w'.heap.size w' [(b, d)] ∧ d.xs.length ≤ 42 ∧ Below w.heap.size w w'
theorem d1_fin {w W : World} {b : BV} {d : BD} {h1 : Nat} {x0 x1 : Value} (bw : Below w.heap.size w W) (o1 : AllOwn (w.heap.size + 1) h1 W [(b, d)]) (q1 : h1 ≤ W.heap.size) (a1 : AllAr W [(b, d)]) (l1 : d.xs.length ≤ 42) :
    OutD1 w (.returned (.agg #[.bool b.g, .slice b.a b.n b.c])) ((W.setCell ⟨w.heap.size, 0, none⟩ x0).setCell ⟨w.heap.size, 1, none⟩ x1) := by
  have hb : But w.heap.size (w.heap.size + 1) W ((W.setCell ⟨w.heap.size, 0, none⟩ x0).setCell ⟨w.heap.size, 1, none⟩ x1) := ((But.refl _ _ W).set (p := ⟨w.heap.size, 0, none⟩) (Nat.le_refl _) (Nat.lt_succ_self _) _).set (p := ⟨w.heap.size, 1, none⟩) (Nat.le_refl _) (Nat.lt_succ_self _) _
  exact ⟨b, d, rfl, ar_keep2 o1 a1 hb (Nat.le_refl _), (o1.but hb (.inr (Nat.le_refl _))).wide (by omega) (Nat.le_trans q1 hb.size), l1, hb.below bw (Nat.le_refl _) bw.size⟩
end Go.Proofs.YtdgonpbponnnaaaDoor

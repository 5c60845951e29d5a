/- Pairs of numbers as they are drawn, and numbers for IntOf. No condition beyond those typed. -/
import Derived.Test.YtdgonpbponnnaaaGreatDoorCurB
import Derived.Test.YtdgonpbponnnaaaGreatDoorBigOfI
import Derived.Test.YtdgonpbponnnaaaGreatDoorDivI
namespace Go.Proofs.YtdgonpbponnnaaaGreatDoor
open Go.RowKit
set_option linter.unusedVariables false
set_option maxRecDepth 100000
set_option linter.unusedSimpArgs false

theorem ar_keep {w w' : World} {C lo hi : Nat} {l : List (BV × BD)} (h : AllOwn lo hi w l) (k : AllAr w l) (hb : But C (C + 1) w w') (hC : C < lo) : AllAr w' l := fun p hp =>
  ⟨(k p hp).sg, ⟨((h.but hb (.inr (by omega))).sl p hp).sl, (k p hp).ar.len, (k p hp).ar.cap, (k p hp).ar.top, (k p hp).ar.addr⟩⟩
/-- Two numbers' cells; all that was there stays. -/
def OutDD (w : World) (e : Ending) (w' : World) : Prop := ∃ (b1 b2 : BV) (d1 d2 : BD), e = .returned (.tuple #[.agg #[.bool b1.g, .slice b1.a b1.n b1.c], .agg #[.bool b2.g, .slice b2.a b2.n b2.c]]) ∧ AllAr w' [(b1, d1)] ∧ AllAr w' [(b2, d2)] ∧ AllOwn w.heap.size w'.heap.size w' [(b1, d1)] ∧ AllOwn w.heap.size w'.heap.size w' [(b2, d2)] ∧ d1.xs.length ≤ 42 ∧ d2.xs.length ≤ 42 ∧ Below w.heap.size w w'
theorem ar_keep2 {w w' : World} {lo hi lo' hi' : Nat} {l : List (BV × BD)} (h : AllOwn lo hi w l) (k : AllAr w l) (hb : But lo' hi' w w') (hd : hi' ≤ lo) : AllAr w' l := fun p hp =>
  ⟨(k p hp).sg, ⟨((h.but hb (.inr hd)).sl p hp).sl, (k p hp).ar.len, (k p hp).ar.cap, (k p hp).ar.top, (k p hp).ar.addr⟩⟩
theorem dd_fin {w W W' : World} {b1 b2 : BV} {d1 d2 : BD} {h1 h2 : Nat} (hb : But w.heap.size (w.heap.size + 2) W W') (bw : Below w.heap.size w W) (o1 : AllOwn (w.heap.size + 2) h1 W [(b1, d1)]) (a1 : AllAr W [(b1, d1)]) (o2 : AllOwn (w.heap.size + 2) h2 W [(b2, d2)]) (q1 : h1 ≤ W.heap.size) (q2 : h2 ≤ W.heap.size) (a2 : AllAr W [(b2, d2)]) (l1 : d1.xs.length ≤ 42) (l2 : d2.xs.length ≤ 42) :
    OutDD w (.returned (.tuple #[.agg #[.bool b1.g, .slice b1.a b1.n b1.c], .agg #[.bool b2.g, .slice b2.a b2.n b2.c]])) W' :=
  ⟨b1, b2, d1, d2, rfl, ar_keep2 o1 a1 hb (by omega), ar_keep2 o2 a2 hb (by omega), (o1.but hb (.inr (by omega))).wide (by omega) (Nat.le_trans q1 hb.size), (o2.but hb (.inr (by omega))).wide (by omega) (Nat.le_trans q2 hb.size), l1, l2, hb.below bw (Nat.le_refl _) bw.size⟩
theorem two_set {W : World} {R : Nat} {x0 x1 x2 x3 : Value} : But R (R + 2) W ((((W.setCell ⟨R, 0, none⟩ x0).setCell ⟨R, 1, none⟩ x1).setCell ⟨R + 1, 0, none⟩ x2).setCell ⟨R + 1, 1, none⟩ x3) :=
  ((((But.refl _ _ W).set (p := ⟨R, 0, none⟩) (Nat.le_refl _) (by show R < _; omega) _).set (p := ⟨R, 1, none⟩) (Nat.le_refl _) (by show R < _; omega) _).set (p := ⟨R + 1, 0, none⟩) (by show R ≤ R + 1; omega) (by show R + 1 < _; omega) _).set (p := ⟨R + 1, 1, none⟩) (by show R ≤ R + 1; omega) (by show R + 1 < _; omega) _
theorem Nm.len4 {zs : List Int} {V : Int} (h : Nm zs V) (hV : V ≤ 9223372036854775808) : zs.length ≤ 4 :=
  h.le (W := [65535, 65535, 65535, 65535]) (by intro x hx; simp at hx; omega) rfl (by simp [val]; omega)
theorem wrap64_in (n : Int) : -9223372036854775808 ≤ wrap64 n ∧ wrap64 n ≤ 9223372036854775807 := by
  unfold wrap64
  omega
theorem cells11 (w : World) (l : List Int) (h : l.length = 11) (cs : Array Value) (hc : cs = (l.map (Value.int .i64)).toArray) : ∀ i, i < 11 → (w.alloc (.cells cs 3)).cell? ⟨w.heap.size, 0 + i, none⟩ = some (.int .i64 (l.getD i 0)) := by
  intro i hi
  subst hc
  rw [Nat.zero_add, List.getD_eq_getElem?_getD, List.getElem?_eq_getElem (by omega)]
  simp [go_sem, h, hi]
set_option maxHeartbeats 4000000 in
theorem anyInt_v (C T : Nat) (w : World) (h : Cur C T w) (hT : T ≤ 990000) :
    Calls Tryz.prog 49 #[.pointer (some ⟨C, 0, none⟩)] w fun e w' => ∃ x : Int, e = .returned (.int .i64 x) ∧ -9223372036854775808 ≤ x ∧ x ≤ 9223372036854775807 ∧ Cur C (T + 6) w' ∧ But C (C + 1) w w' := by
  have hCw := h.lt
  have HC := hide h
  clear h
  go_enter Tryz.func49, Tryz.ntmps49
  go_wp2_with fail
  refine (one_v C T 2 _ (unhide HC) (by omega) (by omega)).mono ?_
  rintro e w1 ⟨o1, rfl, c1, b1⟩
  have H1 := hide c1
  have HB := hide b1
  have s1 := b1.size
  clear c1 b1 HC
  cases o1
  · go_wp2_with fail
    refine (pick_v C _ 256 _ (unhide H1) (by omega) (by omega)).mono ?_
    rintro e w2 ⟨x, rfl, x0, x1, x2, c1, b1⟩
    replace x1 := x1 (by omega)
    have xw : IntKind.i64.wrap (x - 128) = x - 128 := by rw [IntKind.wrap_i64]; omega
    have H2 := hide c1
    replace HB := hide ((unhide HB).trans b1)
    clear c1 b1 H1
    go_wp2_with fail
    refine (pick_v C _ 50 _ (unhide H2) (by omega) (by omega)).mono ?_
    rintro e w3 ⟨y, rfl, y0, y1, y2, c1, b1⟩
    replace y1 := y1 (by omega)
    have H3 := hide c1
    replace HB := hide ((unhide HB).trans b1)
    have yw : IntKind.u64.wrap y = y := by rw [IntKind.wrap_u64]; omega
    clear c1 b1 H2
    go_wp2_with fail
    go_ret
    exact ⟨_, rfl, (wrap64_in _).1, (wrap64_in _).2, (unhide H3).mono (by omega), unhide HB⟩
  · go_wp2_with fail
    refine (among_v C _ w1.heap.size 0 11 11 [0, 1, -1, 65535, 65536, -65536, 4611686018427387904, -4611686018427387904, 4611686018427387905, -9223372036854775808, 9223372036854775807] _ ((unhide H1).later ((Below.refl _ _).alloc (Nat.le_refl _) _)) (by omega) (by omega) (by omega) rfl (by omega) (by simp) (cells11 _ _ rfl _ rfl)).mono ?_
    rintro e w2 ⟨x, rfl, hx, c1, b1⟩
    have hx2 : -9223372036854775808 ≤ x ∧ x ≤ 9223372036854775807 := by simp at hx; omega
    have H2 := hide c1
    replace HB := hide (((unhide HB).trans (al_but _)).trans b1)
    clear c1 b1 H1 hx
    go_wp2_with fail
    go_ret
    exact ⟨x, rfl, hx2.1, hx2.2, (unhide H2).mono (by omega), unhide HB⟩
/-- A number's cells; all that was there stays. -/
def OutD1 (w : World) (e : Ending) (w' : World) : Prop := ∃ (b : BV) (d : BD), e = .returned (.agg #[.bool b.g, .slice b.a b.n b.c]) ∧ AllAr w' [(b, d)] ∧ AllOwn w.heap.size w'.heap.size w' [(b, d)] ∧ d.xs.length ≤ 42 ∧ Below w.heap.size w w'
theorem d1_fin {w W : World} {b : BV} {d : BD} {h1 : Nat} {x0 x1 : Value} (bw : Below w.heap.size w W) (o1 : AllOwn (w.heap.size + 1) h1 W [(b, d)]) (q1 : h1 ≤ W.heap.size) (a1 : AllAr W [(b, d)]) (l1 : d.xs.length ≤ 42) :
    OutD1 w (.returned (.agg #[.bool b.g, .slice b.a b.n b.c])) ((W.setCell ⟨w.heap.size, 0, none⟩ x0).setCell ⟨w.heap.size, 1, none⟩ x1) := by
  have hb : But w.heap.size (w.heap.size + 1) W ((W.setCell ⟨w.heap.size, 0, none⟩ x0).setCell ⟨w.heap.size, 1, none⟩ x1) := ((But.refl _ _ W).set (p := ⟨w.heap.size, 0, none⟩) (Nat.le_refl _) (Nat.lt_succ_self _) _).set (p := ⟨w.heap.size, 1, none⟩) (Nat.le_refl _) (Nat.lt_succ_self _) _
  exact ⟨b, d, rfl, ar_keep2 o1 a1 hb (Nat.le_refl _), (o1.but hb (.inr (Nat.le_refl _))).wide (by omega) (Nat.le_trans q1 hb.size), l1, hb.below bw (Nat.le_refl _) bw.size⟩
end Go.Proofs.YtdgonpbponnnaaaGreatDoor

/- The law FnExactFloorRat returns true for every argument and leaves it as it was: the given statement FnExactFloorRatSaid. No condition. -/
import Derived.Test.YtgekkmibddfakaaRatF
import Derived.Test.YtgekkmibddfakaaVarB
import Derived.Test.YtgekkmibddfakaaSubI
import Derived.Test.YtgekkmibddfakaaIo
import Derived.Test.YtgekkmibddfakaaOpenQ
namespace Go.Proofs.Ytgekkmibddfakaa
open Go.RowKit
set_option linter.unusedVariables false
set_option maxRecDepth 100000
set_option linter.unusedSimpArgs false

def RetB (w : World) (U : BD → Bool → Prop) (e : Ending) (w' : World) : Prop := ∃ (v : BV) (d : BD) (ok : Bool), e = .returned (.tuple #[.agg #[.bool v.g, .slice v.a v.n v.c], .bool ok]) ∧ Below w.heap.size w w' ∧ AllOwn w.heap.size w'.heap.size w' [(v, d)] ∧ U d ok
def AnsB (P : Bool) (V : Int) (d : BD) (ok : Bool) : Prop := (P = true ∧ ok = true ∧ d.g = decide (V < 0) ∧ Nm d.xs V.natAbs ∧ d.xs.length ≤ 40) ∨ (P = false ∧ ok = false ∧ d = ⟨false, []⟩)
theorem AnsB.same {P : Bool} {V : Int} {d d' : BD} {ok ok' : Bool} (h : AnsB P V d ok) (k : AnsB P V d' ok') : d = d' ∧ ok = ok' := by
  obtain ⟨g, xs⟩ := d
  obtain ⟨g', xs'⟩ := d'
  rcases h with ⟨p, o, a, b, _⟩ | ⟨p, o, e⟩ <;> rcases k with ⟨p', o', a', b', _⟩ | ⟨p', o', e'⟩
  · simp only at a b a' b'
    rw [a, a', b.same b']
    exact ⟨rfl, o.trans o'.symm⟩
  · rw [p] at p'; cases p'
  · rw [p] at p'; cases p'
  · exact ⟨e.trans e'.symm, o.trans o'.symm⟩
theorem AnsB.lens {P : Bool} {V : Int} {d : BD} {ok : Bool} (h : AnsB P V d ok) : d.xs.length ≤ 40 := by
  rcases h with ⟨_, _, _, _, h⟩ | ⟨_, _, rfl⟩
  · exact h
  · simp
theorem retB_fin {w wN W : World} {R : Nat} {v : BV} {d : BD} {ok : Bool} {U : BD → Bool → Prop} (hR : w.heap.size ≤ R) (hb : Below w.heap.size w wN) (bt : But R (R + 1) wN W) (ho : AllOwn (R + 1) wN.heap.size wN [(v, d)]) (hu : U d ok) : RetB w U (.returned (.tuple #[.agg #[.bool v.g, .slice v.a v.n v.c], .bool ok])) W :=
  ⟨v, d, ok, rfl, bt.below hb hR hb.size, (own_fin bt ho (Nat.le_refl _)).wide (by omega) bt.size, hu⟩
theorem floor_pos {N D : Int} (hD : 0 < D) (hN : ¬ N < 0) : sU false ((N.natAbs : Int) / (D.natAbs : Int)) = N / D ∧ (N.natAbs : Int) % (D.natAbs : Int) = N % D := by
  rw [show (N.natAbs : Int) = N by omega, show (D.natAbs : Int) = D by omega]
  exact ⟨rfl, rfl⟩
theorem floor_neg0 {N D : Int} (hD : 0 < D) (hN : N < 0) (hr : (N.natAbs : Int) % (D.natAbs : Int) = 0) : sU true ((N.natAbs : Int) / (D.natAbs : Int)) = N / D ∧ (N.natAbs : Int) % (D.natAbs : Int) = N % D := by
  have e1 := Int.emod_add_mul_ediv (N.natAbs : Int) (D.natAbs : Int)
  rw [hr] at e1 ⊢
  rw [show (D.natAbs : Int) = D by omega] at *
  show -((N.natAbs : Int) / D) = N / D ∧ 0 = N % D
  generalize (N.natAbs : Int) / D = k at *
  have := (Int.ediv_emod_unique (a := N) (r := 0) (q := -k) hD).2 ⟨by rw [Int.mul_neg]; omega, by omega, hD⟩
  exact ⟨this.1.symm, this.2.symm⟩
theorem floor_neg {N D : Int} (hD : 0 < D) (hN : N < 0) (hr : (N.natAbs : Int) % (D.natAbs : Int) ≠ 0) : -((N.natAbs : Int) / (D.natAbs : Int) + 1) = N / D ∧ (D.natAbs : Int) - (N.natAbs : Int) % (D.natAbs : Int) = N % D := by
  have e1 := Int.emod_add_mul_ediv (N.natAbs : Int) (D.natAbs : Int)
  have e2 := Int.emod_nonneg (N.natAbs : Int) (show (D.natAbs : Int) ≠ 0 by omega)
  have e3 := Int.emod_lt_of_pos (N.natAbs : Int) (show 0 < (D.natAbs : Int) by omega)
  rw [show (D.natAbs : Int) = D by omega] at *
  generalize (N.natAbs : Int) / D = k at *
  generalize (N.natAbs : Int) % D = r at *
  have := (Int.ediv_emod_unique (a := N) (r := D - r) (q := -(k + 1)) hD).2 ⟨by rw [Int.mul_neg, Int.mul_add, Int.mul_one]; omega, by omega, by omega⟩
  exact ⟨this.1.symm, this.2.symm⟩
theorem floor_abs {N D : Int} (hD : 0 < D) : (N / D).natAbs ≤ N.natAbs ∧ 0 ≤ N % D ∧ N % D < D := by
  have e1 := Int.emod_add_mul_ediv N D
  have e2 := Int.emod_nonneg N (show D ≠ 0 by omega)
  have e3 := Int.emod_lt_of_pos N hD
  refine ⟨?_, e2, e3⟩
  by_cases h : 0 ≤ N
  · have h1 : 0 ≤ N / D := Int.ediv_nonneg h (by omega)
    have h2 : N / D ≤ N := Int.ediv_le_self _ h
    omega
  · have h1 : N / D < 0 := Int.ediv_neg_of_neg_of_pos (by omega) hD
    have h2 : N ≤ N / D := by
      have m := Int.mul_le_mul_of_nonneg_left (show 1 ≤ D by omega) (show 0 ≤ -(N / D + 1) by omega)
      have e4 : -(N / D + 1) * D = -(D * (N / D)) - D := by rw [Int.neg_mul, Int.add_mul, Int.one_mul, Int.mul_comm (N / D) D]; omega
      rw [Int.mul_one, e4] at m
      omega
    omega
/-- A call answers floor and rest. -/
def OutFR (w : World) (N D : Int) (e : Ending) (w' : World) : Prop := ∃ x y : BV, e = .returned (.tuple #[.agg #[.bool x.g, .slice x.a x.n x.c], .agg #[.bool y.g, .slice y.a y.n y.c]]) ∧ Below w.heap.size w w' ∧ Ow w.heap.size w'.heap.size w' x (N / D) ∧ Ow w.heap.size w'.heap.size w' y (N % D)

set_option maxHeartbeats 4000000 in
theorem floorFR (q : QV) (N D : Int) (w : World) (h : IsQ w q N D) (hD : 0 < D) (k1 : Bd N 400000) (k2 : Bd D 400000) : Calls Try.prog 175 #[.agg #[.bool q.num.g, .slice q.num.a q.num.n q.num.c, .bool q.den.g, .slice q.den.a q.den.n q.den.c]] w (OutFR w N D) := by
  obtain ⟨⟨g, a, n, c⟩, b⟩ := q
  obtain ⟨xs, hx, _, hl, nx, sx⟩ := h.1.num k1 (by omega)
  obtain ⟨ys, hy, _, hl', ny, sy⟩ := h.2.num k2 (by omega)
  have hm : 1 ≤ b.n := by have := h.2.zero_iff; simp only at this; omega
  simp only at hx hl sx hy hl' ⊢
  have HX := hide hx.arg
  have HY := hide hy.arg
  have KN := hide k1
  have NX := hide nx
  have NY := hide ny
  clear h hx hy nx ny sy k1 k2
  by_cases hN : N < 0
  · obtain rfl : g = true := by rw [sx]; exact decide_eq_true hN
    clear sx
    by_cases hr : (N.natAbs : Int) % (D.natAbs : Int) = 0
    · have FL := hide (floor_neg0 hD hN hr)
      have HR := hide hr
      clear hr hN
      have B0 := hide (show Below w.heap.size w (((w.alloc (.cells #[.bool true, .slice a n c, .bool b.g, .slice b.a b.n b.c] 31)).alloc (.cells #[.bool false, .slice none 0 0] 29)).alloc (.cells #[.bool false, .slice none 0 0] 29)) from ((((Below.refl _ _).alloc (by simp) _).alloc (by simp) _).alloc (by simp <;> omega) _))
      go_enter Try.func175, Try.ntmps175
      go_wp2_with fail
      refine (divI_any a b.a n b.n c b.c xs ys _ ((unhide HX).later (unhide B0)) ((unhide HY).later (unhide B0)) (unhide NX).ok (unhide NX).tr (unhide NY).ok (unhide NY).tr (by omega) (by omega) (by omega)).mono ?_
      rintro e w1 ⟨a2, n2, c2, zs, a3, n3, c3, rs, rfl, hb, ho2, ha2, hn2, ho3, ha3, hn3, ap⟩
      have s1 : w.heap.size + 3 ≤ w1.heap.size := by have := hb.size; simp at this; omega
      rw [(unhide NX).v, (unhide NY).v] at hn2 hn3
      have N2 := hide hn2
      have N3 := hide hn3
      have ln : n2 ≤ 400000 := by rw [← ha2.len]; exact Nm.len_le (V := (N.natAbs : Int) / (D.natAbs : Int)) (by rw [Int.natAbs_of_nonneg (Int.ediv_nonneg (by omega) (by omega))]; exact hn2) ((unhide KN).le (by have h1 := Int.ediv_le_self (D.natAbs : Int) (show 0 ≤ (N.natAbs : Int) by omega); have h2 := Int.ediv_nonneg (show 0 ≤ (N.natAbs : Int) by omega) (show 0 ≤ (D.natAbs : Int) by omega); omega))
      have l3 : n3 = 0 ↔ (N.natAbs : Int) % (D.natAbs : Int) = 0 := by rw [← ha3.len, List.length_eq_zero_iff]; exact hn3.nil_iff
      obtain rfl : n3 = 0 := l3.2 (unhide HR)
      clear l3
      have k0_0 : w1.cell? ⟨w.heap.size, 0, none⟩ = some (.bool true) := cell_later hb (by simp [go_sem])
      have k1_0 : w1.cell? ⟨w.heap.size + 1, 0, none⟩ = some (.bool false) := cell_later hb (by simp [go_sem])
      have k1_1 : w1.cell? ⟨w.heap.size + 1, 1, none⟩ = some (.slice none 0 0) := cell_later hb (by simp [go_sem])
      have k2_0 : w1.cell? ⟨w.heap.size + 1 + 1, 0, none⟩ = some (.bool false) := cell_later hb (by simp [go_sem])
      have k2_1 : w1.cell? ⟨w.heap.size + 1 + 1, 1, none⟩ = some (.slice none 0 0) := cell_later hb (by simp [go_sem])
      have z1 : ∀ o, w1.frozen? ⟨w.heap.size + 1, o, none⟩ = false := fun o => frozen_later hb (by simp) (by simp [go_sem])
      have z2 : ∀ o, w1.frozen? ⟨w.heap.size + 1 + 1, o, none⟩ = false := fun o => frozen_later hb (by simp) (by simp [go_sem])
      have A2 := hide (ha2)
      have A3 := hide (ha3)
      have O2 := hide (ho2.two)
      have O3 := hide (ho3.two)
      have HB := hide (below_on (unhide B0) hb)
      clear hb
      clear ho2 ha2 hn2 ho3 ha3 hn3 ap
      go_wp2_with fail
      refine (signI_v true a2 n2 c2 zs _ _ _ _ (unhide A2) (unhide O2) (unhide N2)).mono ?_
      rintro e w5 ⟨x1, rfl, hb, ow1, ar1⟩
      have s5 := hb.size
      replace z1 := fun o => frozen_later hb (World.block_lt_of_cell? _ _ k1_0) (z1 o)
      replace z2 := fun o => frozen_later hb (World.block_lt_of_cell? _ _ k2_0) (z2 o)
      replace k1_0 := cell_later hb k1_0
      replace k1_1 := cell_later hb k1_1
      replace k2_0 := cell_later hb k2_0
      replace k2_1 := cell_later hb k2_1
      clear k0_0
      replace A2 := hide ((unhide A2).later hb)
      replace A3 := hide ((unhide A3).later hb)
      replace O2 := hide ((unhide O2).later hb)
      replace O3 := hide ((unhide O3).later hb)
      have OW1 := hide (ow1)
      have AR1 := hide (ar1)
      replace HB := hide (below_on (unhide HB) hb)
      clear hb
      clear ow1 ar1
      go_wp2_with fail
      refine (signI_v false a3 0 c3 rs _ _ _ _ (unhide A3) (unhide O3) (unhide N3)).mono ?_
      rintro e w6 ⟨x2, rfl, hb, ow2, ar2⟩
      have s6 := hb.size
      replace z1 := fun o => frozen_later hb (World.block_lt_of_cell? _ _ k1_0) (z1 o)
      replace z2 := fun o => frozen_later hb (World.block_lt_of_cell? _ _ k2_0) (z2 o)
      replace k1_0 := cell_later hb k1_0
      replace k1_1 := cell_later hb k1_1
      replace k2_0 := cell_later hb k2_0
      replace k2_1 := cell_later hb k2_1
      replace A2 := hide ((unhide A2).later hb)
      replace A3 := hide ((unhide A3).later hb)
      replace O2 := hide ((unhide O2).later hb)
      replace O3 := hide ((unhide O3).later hb)
      replace OW1 := hide ((unhide OW1).later hb)
      replace AR1 := hide ((unhide AR1).later hb)
      have OW2 := hide (ow2)
      have AR2 := hide (ar2)
      replace HB := hide (below_on (unhide HB) hb)
      clear hb
      clear ow2 ar2
      have e1 : sU true ((N.natAbs : Int) / (D.natAbs : Int)) = N / D := (unhide FL).1
      have e2 : sU false ((N.natAbs : Int) % (D.natAbs : Int)) = N % D := (unhide FL).2
      have P1 : Hid (Ow (w.heap.size + 3) w6.heap.size w6 x1 (N / D)) := hide (by
        have a0 := (unhide OW1).wide (lo' := w.heap.size + 3) (hi' := w6.heap.size) (by first | omega | (simp; done) | (simp; omega)) (by omega)
        have a1 := unhide AR1
        rw [e1] at a0 a1
        exact outN_ow a0 a1 (by rw [← e1, sU_abs (unhide N2).nonneg]; exact unhide N2))
      have P2 : Hid (Ow (w.heap.size + 3) w6.heap.size w6 x2 (N % D)) := hide (by
        have a0 := (unhide OW2).wide (lo' := w.heap.size + 3) (hi' := w6.heap.size) (by first | omega | (simp; done) | (simp; omega)) (by omega)
        have a1 := unhide AR2
        rw [e2] at a0 a1
        exact outN_ow a0 a1 (by rw [← e2, sU_abs (unhide N3).nonneg]; exact unhide N3))
      clear e1 e2 OW1 OW2 AR1 AR2
      go_wp2
      refine bodyPost_ret (v := .tuple #[.agg #[.bool x1.g, .slice x1.a x1.n x1.c], .agg #[.bool x2.g, .slice x2.a x2.n x2.c]]) (by simp [results, Try.results175, go_sem, k1_0, k1_1, k2_0, k2_1]) rfl ?_
      have bt1 := metB_but (w5 := w6) (v := x1) (G := w.heap.size + 1)
      have bt2 := metB_but (w5 := (w6.setCell ⟨w.heap.size + 1, 0, none⟩ (.bool x1.g)).setCell ⟨w.heap.size + 1, 1, none⟩ (.slice x1.a x1.n x1.c)) (v := x2) (G := w.heap.size + 1 + 1)
      exact ⟨x1, x2, rfl, bt2.below (bt1.below (unhide HB) (by omega) (unhide HB).size) (by omega) (by have := bt1.size; have := (unhide HB).size; omega), (((unhide P1).but bt1 (.inr (by omega))).but bt2 (.inr (by omega))).wide (by omega) (by have := bt1.size; have := bt2.size; omega), (((unhide P2).but bt1 (.inr (by omega))).but bt2 (.inr (by omega))).wide (by omega) (by have := bt1.size; have := bt2.size; omega)⟩
    · have FL := hide (floor_neg hD hN hr)
      have HR := hide hr
      clear hr hN
      have B0 := hide (show Below w.heap.size w (((w.alloc (.cells #[.bool true, .slice a n c, .bool b.g, .slice b.a b.n b.c] 31)).alloc (.cells #[.bool false, .slice none 0 0] 29)).alloc (.cells #[.bool false, .slice none 0 0] 29)) from ((((Below.refl _ _).alloc (by simp) _).alloc (by simp) _).alloc (by simp <;> omega) _))
      go_enter Try.func175, Try.ntmps175
      go_wp2_with fail
      refine (divI_any a b.a n b.n c b.c xs ys _ ((unhide HX).later (unhide B0)) ((unhide HY).later (unhide B0)) (unhide NX).ok (unhide NX).tr (unhide NY).ok (unhide NY).tr (by omega) (by omega) (by omega)).mono ?_
      rintro e w1 ⟨a2, n2, c2, zs, a3, n3, c3, rs, rfl, hb, ho2, ha2, hn2, ho3, ha3, hn3, ap⟩
      have s1 : w.heap.size + 3 ≤ w1.heap.size := by have := hb.size; simp at this; omega
      rw [(unhide NX).v, (unhide NY).v] at hn2 hn3
      have N2 := hide hn2
      have N3 := hide hn3
      have ln : n2 ≤ 400000 := by rw [← ha2.len]; exact Nm.len_le (V := (N.natAbs : Int) / (D.natAbs : Int)) (by rw [Int.natAbs_of_nonneg (Int.ediv_nonneg (by omega) (by omega))]; exact hn2) ((unhide KN).le (by have h1 := Int.ediv_le_self (D.natAbs : Int) (show 0 ≤ (N.natAbs : Int) by omega); have h2 := Int.ediv_nonneg (show 0 ≤ (N.natAbs : Int) by omega) (show 0 ≤ (D.natAbs : Int) by omega); omega))
      have l3 : n3 = 0 ↔ (N.natAbs : Int) % (D.natAbs : Int) = 0 := by rw [← ha3.len, List.length_eq_zero_iff]; exact hn3.nil_iff
      have p3 : 0 < n3 := by have := unhide HR; omega
      have p3x : decide ((0 : Int) < (n3 : Int)) = true := by simp; omega
      have r3 : n3 ≤ b.n := by rw [← ha3.len]; exact hn3.le (unhide NY).ok (unhide HY).len (by rw [(unhide NY).v]; exact Int.le_of_lt (Int.emod_lt_of_pos _ (by omega)))
      clear l3
      have k0_0 : w1.cell? ⟨w.heap.size, 0, none⟩ = some (.bool true) := cell_later hb (by simp [go_sem])
      have k0_3 : w1.cell? ⟨w.heap.size, 3, none⟩ = some (.slice b.a b.n b.c) := cell_later hb (by simp [go_sem])
      have k1_0 : w1.cell? ⟨w.heap.size + 1, 0, none⟩ = some (.bool false) := cell_later hb (by simp [go_sem])
      have k1_1 : w1.cell? ⟨w.heap.size + 1, 1, none⟩ = some (.slice none 0 0) := cell_later hb (by simp [go_sem])
      have k2_0 : w1.cell? ⟨w.heap.size + 1 + 1, 0, none⟩ = some (.bool false) := cell_later hb (by simp [go_sem])
      have k2_1 : w1.cell? ⟨w.heap.size + 1 + 1, 1, none⟩ = some (.slice none 0 0) := cell_later hb (by simp [go_sem])
      have z1 : ∀ o, w1.frozen? ⟨w.heap.size + 1, o, none⟩ = false := fun o => frozen_later hb (by simp) (by simp [go_sem])
      have z2 : ∀ o, w1.frozen? ⟨w.heap.size + 1 + 1, o, none⟩ = false := fun o => frozen_later hb (by simp) (by simp [go_sem])
      have A2 := hide (ha2)
      have A3 := hide (ha3)
      have O2 := hide (ho2.two)
      have O3 := hide (ho3.two)
      have HB := hide (below_on (unhide B0) hb)
      clear hb
      clear ho2 ha2 hn2 ho3 ha3 hn3 ap
      have k0_0u : (w1.alloc (.cells #[.int .i64 1] 3)).cell? ⟨w.heap.size, 0, none⟩ = some (.bool true) := (ca_other k0_0)
      have k0_3u : (w1.alloc (.cells #[.int .i64 1] 3)).cell? ⟨w.heap.size, 3, none⟩ = some (.slice b.a b.n b.c) := (ca_other k0_3)
      have k1_0u : (w1.alloc (.cells #[.int .i64 1] 3)).cell? ⟨w.heap.size + 1, 0, none⟩ = some (.bool false) := (ca_other k1_0)
      have k1_1u : (w1.alloc (.cells #[.int .i64 1] 3)).cell? ⟨w.heap.size + 1, 1, none⟩ = some (.slice none 0 0) := (ca_other k1_1)
      have k2_0u : (w1.alloc (.cells #[.int .i64 1] 3)).cell? ⟨w.heap.size + 1 + 1, 0, none⟩ = some (.bool false) := (ca_other k2_0)
      have k2_1u : (w1.alloc (.cells #[.int .i64 1] 3)).cell? ⟨w.heap.size + 1 + 1, 1, none⟩ = some (.slice none 0 0) := (ca_other k2_1)
      go_wp2_with fail
      refine (addI_any a2 _ n2 1 c2 1 zs [1] _ ((unhide A2).later ((Below.refl _ _).alloc (by simp) _)) (one_arg w1 1).1 (unhide N2).ok nm_one.ok (by omega) (by omega)).mono ?_
      rintro e w2 ⟨a4, n4, c4, ws, rfl, hb, ho4, ha4, hn4⟩
      clear k0_0u k0_3u k1_0u k1_1u k2_0u k2_1u
      rw [(unhide N2).v, nm_one.v] at hn4
      have N4 := hide hn4
      have s2 : w1.heap.size + 1 ≤ w2.heap.size := by have := hb.size; simp at this; omega
      have hbx := ba (hb)
      replace z1 := fun o => frozen_later hbx (World.block_lt_of_cell? _ _ k1_0) (z1 o)
      replace z2 := fun o => frozen_later hbx (World.block_lt_of_cell? _ _ k2_0) (z2 o)
      replace k0_0 := cell_later hbx k0_0
      replace k0_3 := cell_later hbx k0_3
      replace k1_0 := cell_later hbx k1_0
      replace k1_1 := cell_later hbx k1_1
      replace k2_0 := cell_later hbx k2_0
      replace k2_1 := cell_later hbx k2_1
      replace A2 := hide ((unhide A2).later hbx)
      replace A3 := hide ((unhide A3).later hbx)
      replace O2 := hide ((unhide O2).later hbx)
      replace O3 := hide ((unhide O3).later hbx)
      have A4 := hide (ha4)
      have O4 := hide (ho4.two)
      replace HB := hide (below_on (unhide HB) hbx)
      clear hbx hb
      clear ho4 ha4 hn4
      go_wp2_with fail
      refine (subI_any b.a a3 b.n n3 b.c c3 ys rs _ ((unhide HY).later (unhide HB)) (unhide A3) (unhide NY).ok (unhide N3).ok (by omega) r3 (by rw [(unhide N3).v, (unhide NY).v]; exact Int.le_of_lt (Int.emod_lt_of_pos _ (by omega)))).mono ?_
      rintro e w3 ⟨a5, n5, c5, ts, rfl, hb, ho5, ha5, hn5⟩
      rw [(unhide N3).v, (unhide NY).v] at hn5
      have N5 := hide hn5
      have s3 := hb.size
      replace z1 := fun o => frozen_later hb (World.block_lt_of_cell? _ _ k1_0) (z1 o)
      replace z2 := fun o => frozen_later hb (World.block_lt_of_cell? _ _ k2_0) (z2 o)
      replace k0_0 := cell_later hb k0_0
      replace k1_0 := cell_later hb k1_0
      replace k1_1 := cell_later hb k1_1
      replace k2_0 := cell_later hb k2_0
      replace k2_1 := cell_later hb k2_1
      clear k0_3
      replace A2 := hide ((unhide A2).later hb)
      replace A3 := hide ((unhide A3).later hb)
      replace O2 := hide ((unhide O2).later hb)
      replace O3 := hide ((unhide O3).later hb)
      replace A4 := hide ((unhide A4).later hb)
      replace O4 := hide ((unhide O4).later hb)
      have A5 := hide (ha5)
      have O5 := hide (ho5.two)
      replace HB := hide (below_on (unhide HB) hb)
      clear hb
      clear ho5 ha5 hn5
      clear A2 A3 O2 O3
      go_wp2_with fail
      refine (signI_v true a4 n4 c4 ws _ _ _ _ (unhide A4) (unhide O4) (unhide N4)).mono ?_
      rintro e w5 ⟨x1, rfl, hb, ow1, ar1⟩
      have s5 := hb.size
      replace z1 := fun o => frozen_later hb (World.block_lt_of_cell? _ _ k1_0) (z1 o)
      replace z2 := fun o => frozen_later hb (World.block_lt_of_cell? _ _ k2_0) (z2 o)
      replace k1_0 := cell_later hb k1_0
      replace k1_1 := cell_later hb k1_1
      replace k2_0 := cell_later hb k2_0
      replace k2_1 := cell_later hb k2_1
      clear k0_0
      replace A4 := hide ((unhide A4).later hb)
      replace O4 := hide ((unhide O4).later hb)
      replace A5 := hide ((unhide A5).later hb)
      replace O5 := hide ((unhide O5).later hb)
      have OW1 := hide (ow1)
      have AR1 := hide (ar1)
      replace HB := hide (below_on (unhide HB) hb)
      clear hb
      clear ow1 ar1
      go_wp2_with fail
      refine (signI_v false a5 n5 c5 ts _ _ _ _ (unhide A5) (unhide O5) (unhide N5)).mono ?_
      rintro e w6 ⟨x2, rfl, hb, ow2, ar2⟩
      have s6 := hb.size
      replace z1 := fun o => frozen_later hb (World.block_lt_of_cell? _ _ k1_0) (z1 o)
      replace z2 := fun o => frozen_later hb (World.block_lt_of_cell? _ _ k2_0) (z2 o)
      replace k1_0 := cell_later hb k1_0
      replace k1_1 := cell_later hb k1_1
      replace k2_0 := cell_later hb k2_0
      replace k2_1 := cell_later hb k2_1
      replace A4 := hide ((unhide A4).later hb)
      replace O4 := hide ((unhide O4).later hb)
      replace A5 := hide ((unhide A5).later hb)
      replace O5 := hide ((unhide O5).later hb)
      replace OW1 := hide ((unhide OW1).later hb)
      replace AR1 := hide ((unhide AR1).later hb)
      have OW2 := hide (ow2)
      have AR2 := hide (ar2)
      replace HB := hide (below_on (unhide HB) hb)
      clear hb
      clear ow2 ar2
      have e1 : sU true ((N.natAbs : Int) / (D.natAbs : Int) + 1) = N / D := (unhide FL).1
      have e2 : sU false ((D.natAbs : Int) - (N.natAbs : Int) % (D.natAbs : Int)) = N % D := (unhide FL).2
      have P1 : Hid (Ow (w.heap.size + 3) w6.heap.size w6 x1 (N / D)) := hide (by
        have a0 := (unhide OW1).wide (lo' := w.heap.size + 3) (hi' := w6.heap.size) (by first | omega | (simp; done) | (simp; omega)) (by omega)
        have a1 := unhide AR1
        rw [e1] at a0 a1
        exact outN_ow a0 a1 (by rw [← e1, sU_abs (unhide N4).nonneg]; exact unhide N4))
      have P2 : Hid (Ow (w.heap.size + 3) w6.heap.size w6 x2 (N % D)) := hide (by
        have a0 := (unhide OW2).wide (lo' := w.heap.size + 3) (hi' := w6.heap.size) (by first | omega | (simp; done) | (simp; omega)) (by omega)
        have a1 := unhide AR2
        rw [e2] at a0 a1
        exact outN_ow a0 a1 (by rw [← e2, sU_abs (unhide N5).nonneg]; exact unhide N5))
      clear e1 e2 OW1 OW2 AR1 AR2
      go_wp2
      refine bodyPost_ret (v := .tuple #[.agg #[.bool x1.g, .slice x1.a x1.n x1.c], .agg #[.bool x2.g, .slice x2.a x2.n x2.c]]) (by simp [results, Try.results175, go_sem, k1_0, k1_1, k2_0, k2_1]) rfl ?_
      have bt1 := metB_but (w5 := w6) (v := x1) (G := w.heap.size + 1)
      have bt2 := metB_but (w5 := (w6.setCell ⟨w.heap.size + 1, 0, none⟩ (.bool x1.g)).setCell ⟨w.heap.size + 1, 1, none⟩ (.slice x1.a x1.n x1.c)) (v := x2) (G := w.heap.size + 1 + 1)
      exact ⟨x1, x2, rfl, bt2.below (bt1.below (unhide HB) (by omega) (unhide HB).size) (by omega) (by have := bt1.size; have := (unhide HB).size; omega), (((unhide P1).but bt1 (.inr (by omega))).but bt2 (.inr (by omega))).wide (by omega) (by have := bt1.size; have := bt2.size; omega), (((unhide P2).but bt1 (.inr (by omega))).but bt2 (.inr (by omega))).wide (by omega) (by have := bt1.size; have := bt2.size; omega)⟩
  · obtain rfl : g = false := by rw [sx]; exact decide_eq_false hN
    clear sx
    have hr := True.intro
    have FL := hide (floor_pos hD hN)
    have HR := hide hr
    clear hr hN
    have B0 := hide (show Below w.heap.size w (((w.alloc (.cells #[.bool false, .slice a n c, .bool b.g, .slice b.a b.n b.c] 31)).alloc (.cells #[.bool false, .slice none 0 0] 29)).alloc (.cells #[.bool false, .slice none 0 0] 29)) from ((((Below.refl _ _).alloc (by simp) _).alloc (by simp) _).alloc (by simp <;> omega) _))
    go_enter Try.func175, Try.ntmps175
    go_wp2_with fail
    refine (divI_any a b.a n b.n c b.c xs ys _ ((unhide HX).later (unhide B0)) ((unhide HY).later (unhide B0)) (unhide NX).ok (unhide NX).tr (unhide NY).ok (unhide NY).tr (by omega) (by omega) (by omega)).mono ?_
    rintro e w1 ⟨a2, n2, c2, zs, a3, n3, c3, rs, rfl, hb, ho2, ha2, hn2, ho3, ha3, hn3, ap⟩
    have s1 : w.heap.size + 3 ≤ w1.heap.size := by have := hb.size; simp at this; omega
    rw [(unhide NX).v, (unhide NY).v] at hn2 hn3
    have N2 := hide hn2
    have N3 := hide hn3
    have ln : n2 ≤ 400000 := by rw [← ha2.len]; exact Nm.len_le (V := (N.natAbs : Int) / (D.natAbs : Int)) (by rw [Int.natAbs_of_nonneg (Int.ediv_nonneg (by omega) (by omega))]; exact hn2) ((unhide KN).le (by have h1 := Int.ediv_le_self (D.natAbs : Int) (show 0 ≤ (N.natAbs : Int) by omega); have h2 := Int.ediv_nonneg (show 0 ≤ (N.natAbs : Int) by omega) (show 0 ≤ (D.natAbs : Int) by omega); omega))
    have l3 : n3 = 0 ↔ (N.natAbs : Int) % (D.natAbs : Int) = 0 := by rw [← ha3.len, List.length_eq_zero_iff]; exact hn3.nil_iff

    clear l3
    have k0_0 : w1.cell? ⟨w.heap.size, 0, none⟩ = some (.bool false) := cell_later hb (by simp [go_sem])
    have k1_0 : w1.cell? ⟨w.heap.size + 1, 0, none⟩ = some (.bool false) := cell_later hb (by simp [go_sem])
    have k1_1 : w1.cell? ⟨w.heap.size + 1, 1, none⟩ = some (.slice none 0 0) := cell_later hb (by simp [go_sem])
    have k2_0 : w1.cell? ⟨w.heap.size + 1 + 1, 0, none⟩ = some (.bool false) := cell_later hb (by simp [go_sem])
    have k2_1 : w1.cell? ⟨w.heap.size + 1 + 1, 1, none⟩ = some (.slice none 0 0) := cell_later hb (by simp [go_sem])
    have z1 : ∀ o, w1.frozen? ⟨w.heap.size + 1, o, none⟩ = false := fun o => frozen_later hb (by simp) (by simp [go_sem])
    have z2 : ∀ o, w1.frozen? ⟨w.heap.size + 1 + 1, o, none⟩ = false := fun o => frozen_later hb (by simp) (by simp [go_sem])
    have A2 := hide (ha2)
    have A3 := hide (ha3)
    have O2 := hide (ho2.two)
    have O3 := hide (ho3.two)
    have HB := hide (below_on (unhide B0) hb)
    clear hb
    clear ho2 ha2 hn2 ho3 ha3 hn3 ap
    go_wp2_with fail
    refine (signI_v false a2 n2 c2 zs _ _ _ _ (unhide A2) (unhide O2) (unhide N2)).mono ?_
    rintro e w5 ⟨x1, rfl, hb, ow1, ar1⟩
    have s5 := hb.size
    replace z1 := fun o => frozen_later hb (World.block_lt_of_cell? _ _ k1_0) (z1 o)
    replace z2 := fun o => frozen_later hb (World.block_lt_of_cell? _ _ k2_0) (z2 o)
    replace k1_0 := cell_later hb k1_0
    replace k1_1 := cell_later hb k1_1
    replace k2_0 := cell_later hb k2_0
    replace k2_1 := cell_later hb k2_1
    clear k0_0
    replace A2 := hide ((unhide A2).later hb)
    replace A3 := hide ((unhide A3).later hb)
    replace O2 := hide ((unhide O2).later hb)
    replace O3 := hide ((unhide O3).later hb)
    have OW1 := hide (ow1)
    have AR1 := hide (ar1)
    replace HB := hide (below_on (unhide HB) hb)
    clear hb
    clear ow1 ar1
    go_wp2_with fail
    refine (signI_v false a3 n3 c3 rs _ _ _ _ (unhide A3) (unhide O3) (unhide N3)).mono ?_
    rintro e w6 ⟨x2, rfl, hb, ow2, ar2⟩
    have s6 := hb.size
    replace z1 := fun o => frozen_later hb (World.block_lt_of_cell? _ _ k1_0) (z1 o)
    replace z2 := fun o => frozen_later hb (World.block_lt_of_cell? _ _ k2_0) (z2 o)
    replace k1_0 := cell_later hb k1_0
    replace k1_1 := cell_later hb k1_1
    replace k2_0 := cell_later hb k2_0
    replace k2_1 := cell_later hb k2_1
    replace A2 := hide ((unhide A2).later hb)
    replace A3 := hide ((unhide A3).later hb)
    replace O2 := hide ((unhide O2).later hb)
    replace O3 := hide ((unhide O3).later hb)
    replace OW1 := hide ((unhide OW1).later hb)
    replace AR1 := hide ((unhide AR1).later hb)
    have OW2 := hide (ow2)
    have AR2 := hide (ar2)
    replace HB := hide (below_on (unhide HB) hb)
    clear hb
    clear ow2 ar2
    have e1 : sU false ((N.natAbs : Int) / (D.natAbs : Int)) = N / D := (unhide FL).1
    have e2 : sU false ((N.natAbs : Int) % (D.natAbs : Int)) = N % D := (unhide FL).2
    have P1 : Hid (Ow (w.heap.size + 3) w6.heap.size w6 x1 (N / D)) := hide (by
      have a0 := (unhide OW1).wide (lo' := w.heap.size + 3) (hi' := w6.heap.size) (by first | omega | (simp; done) | (simp; omega)) (by omega)
      have a1 := unhide AR1
      rw [e1] at a0 a1
      exact outN_ow a0 a1 (by rw [← e1, sU_abs (unhide N2).nonneg]; exact unhide N2))
    have P2 : Hid (Ow (w.heap.size + 3) w6.heap.size w6 x2 (N % D)) := hide (by
      have a0 := (unhide OW2).wide (lo' := w.heap.size + 3) (hi' := w6.heap.size) (by first | omega | (simp; done) | (simp; omega)) (by omega)
      have a1 := unhide AR2
      rw [e2] at a0 a1
      exact outN_ow a0 a1 (by rw [← e2, sU_abs (unhide N3).nonneg]; exact unhide N3))
    clear e1 e2 OW1 OW2 AR1 AR2
    go_wp2
    refine bodyPost_ret (v := .tuple #[.agg #[.bool x1.g, .slice x1.a x1.n x1.c], .agg #[.bool x2.g, .slice x2.a x2.n x2.c]]) (by simp [results, Try.results175, go_sem, k1_0, k1_1, k2_0, k2_1]) rfl ?_
    have bt1 := metB_but (w5 := w6) (v := x1) (G := w.heap.size + 1)
    have bt2 := metB_but (w5 := (w6.setCell ⟨w.heap.size + 1, 0, none⟩ (.bool x1.g)).setCell ⟨w.heap.size + 1, 1, none⟩ (.slice x1.a x1.n x1.c)) (v := x2) (G := w.heap.size + 1 + 1)
    exact ⟨x1, x2, rfl, bt2.below (bt1.below (unhide HB) (by omega) (unhide HB).size) (by omega) (by have := bt1.size; have := (unhide HB).size; omega), (((unhide P1).but bt1 (.inr (by omega))).but bt2 (.inr (by omega))).wide (by omega) (by have := bt1.size; have := bt2.size; omega), (((unhide P2).but bt1 (.inr (by omega))).but bt2 (.inr (by omega))).wide (by omega) (by have := bt1.size; have := bt2.size; omega)⟩
end Go.Proofs.Ytgekkmibddfakaa
namespace Go.Proofs.Ytgekkmibddfakaa
open Go.RowKit
set_option linter.unusedVariables false
set_option maxRecDepth 100000
set_option linter.unusedSimpArgs false

set_option maxHeartbeats 2000000 in
theorem floorO (q : QV) (N D : Int) (w : World) (h : IsQ w q N D) (hD : 0 < D) (k1 : Bd N 400000) (k2 : Bd D 400000) : Calls Try.prog 121 #[.agg #[.bool q.num.g, .slice q.num.a q.num.n q.num.c, .bool q.den.g, .slice q.den.a q.den.n q.den.c]] w (OutN w (N / D)) := by
  have H1 := hide h
  have HD := hide hD
  have K1 := hide k1
  have K2 := hide k2
  clear h hD k1 k2
  have B0 := hide (show Below w.heap.size w ((w.alloc (.cells #[.bool q.num.g, .slice q.num.a q.num.n q.num.c, .bool q.den.g, .slice q.den.a q.den.n q.den.c] 31)).alloc (.cells #[.bool false, .slice none 0 0] 29)) from (((Below.refl _ _).alloc (by simp) _).alloc (by simp) _))
  go_enter Try.func121, Try.ntmps121
  go_wp2_with fail
  refine (floorFR q N D _ ((unhide H1).later (unhide B0)) (unhide HD) (unhide K1) (unhide K2)).mono ?_
  rintro e w1 ⟨x, y, rfl, hb, ox, oy⟩
  have s1 : w.heap.size + 1 + 1 ≤ w1.heap.size := by have := hb.size; simp at this; omega
  replace ox := ox.wide (lo' := w.heap.size + 1 + 1) (by simp) (Nat.le_refl _)
  have k1_0 : w1.cell? ⟨w.heap.size + 1, 0, none⟩ = some (.bool false) := cell_later hb (by simp [go_sem])
  have k1_1 : w1.cell? ⟨w.heap.size + 1, 1, none⟩ = some (.slice none 0 0) := cell_later hb (by simp [go_sem])
  have z1 : ∀ o, w1.frozen? ⟨w.heap.size + 1, o, none⟩ = false := fun o => frozen_later hb (by simp) (by simp [go_sem])
  have OX := hide (ox)
  have HB := hide (below_on (unhide B0) hb)
  clear hb
  clear ox oy
  go_upto_region 2 with fail
  have hb : Below w1.heap.size w1 ((w1.alloc (.cells #[.bool x.g, .slice x.a x.n x.c] 29)).alloc (.cells #[.bool y.g, .slice y.a y.n y.c] 29)) := (((Below.refl _ _).alloc (by simp) _).alloc (by simp) _)
  have k2_0 : ((w1.alloc (.cells #[.bool x.g, .slice x.a x.n x.c] 29)).alloc (.cells #[.bool y.g, .slice y.a y.n y.c] 29)).cell? ⟨w1.heap.size, 0, none⟩ = some (.bool x.g) := by simp [go_sem]
  have k2_1 : ((w1.alloc (.cells #[.bool x.g, .slice x.a x.n x.c] 29)).alloc (.cells #[.bool y.g, .slice y.a y.n y.c] 29)).cell? ⟨w1.heap.size, 1, none⟩ = some (.slice x.a x.n x.c) := by simp [go_sem]
  replace k1_0 : ((w1.alloc (.cells #[.bool x.g, .slice x.a x.n x.c] 29)).alloc (.cells #[.bool y.g, .slice y.a y.n y.c] 29)).cell? ⟨w.heap.size + 1, 0, none⟩ = some (.bool false) := (ca_other (ca_other k1_0))
  replace k1_1 : ((w1.alloc (.cells #[.bool x.g, .slice x.a x.n x.c] 29)).alloc (.cells #[.bool y.g, .slice y.a y.n y.c] 29)).cell? ⟨w.heap.size + 1, 1, none⟩ = some (.slice none 0 0) := (ca_other (ca_other k1_1))
  replace z1 : ∀ o, ((w1.alloc (.cells #[.bool x.g, .slice x.a x.n x.c] 29)).alloc (.cells #[.bool y.g, .slice y.a y.n y.c] 29)).frozen? ⟨w.heap.size + 1, o, none⟩ = false := fun o => frozen_later hb (by omega) (z1 o)
  replace OX := hide ((unhide OX).later hb)
  replace HB := hide (below_on (unhide HB) hb)
  have szw2 := hb.size
  clear hb
  generalize ((w1.alloc (.cells #[.bool x.g, .slice x.a x.n x.c] 29)).alloc (.cells #[.bool y.g, .slice y.a y.n y.c] 29)) = w2 at *
  go_wp2
  refine bodyPost_ret (v := .agg #[.bool x.g, .slice x.a x.n x.c]) (by simp [results, Try.results121, go_sem, k1_0, k1_1]) rfl ?_
  obtain ⟨xs, o1, o2, o3⟩ := unhide OX
  exact outN_fin (b := x) (R := w.heap.size + 1) (by omega) (unhide HB) (metB_but (w5 := w2) (v := x) (G := w.heap.size + 1)) (o1.wide (by omega) (by omega)) o2 o3

theorem alwaysB (b : BV) (w : World) : Calls Try.prog 122 #[.agg #[.bool b.g, .slice b.a b.n b.c]] w fun e w' => e = .returned (.bool true) ∧ Below w.heap.size w w' := by
  have B0 := hide (show Below w.heap.size w (w.alloc (.cells #[.bool b.g, .slice b.a b.n b.c] 29)) from ((Below.refl _ _).alloc (by simp) _))
  go_enter Try.func122, Try.ntmps122
  go_wp2
  go_ret
  exact ⟨rfl, unhide B0⟩

set_option maxHeartbeats 2000000 in
theorem whereB (b : BV) (d : BD) (lo hi : Nat) (w : World) (ho : AllOwn lo hi w [(b, d)]) (hh : hi ≤ w.heap.size) : Calls Try.prog 174 #[.agg #[.bool b.g, .slice b.a b.n b.c], .func (Fn.func 122) #[] #[]] w fun e w' => e = .returned (.tuple #[.agg #[.bool b.g, .slice b.a b.n b.c], .bool true]) ∧ Below w.heap.size w w' ∧ AllOwn lo hi w' [(b, d)] := by
  have HO := hide ho
  clear ho
  have B0 := hide (show Below w.heap.size w ((w.alloc (.cells #[.bool b.g, .slice b.a b.n b.c] 29)).alloc (.cells #[.bool false, .slice none 0 0] 29)) from (((Below.refl _ _).alloc (by simp) _).alloc (by simp) _))
  go_enter Try.func174, Try.ntmps174
  go_wp2_with fail
  refine (alwaysB b _).mono ?_
  rintro e w1 ⟨rfl, hb⟩
  have s1 : w.heap.size + 1 < w1.heap.size := by have := hb.size; simp at this; omega
  have k0_0 : w1.cell? ⟨w.heap.size, 0, none⟩ = some (.bool b.g) := cell_later hb (by simp [go_sem])
  have k0_1 : w1.cell? ⟨w.heap.size, 1, none⟩ = some (.slice b.a b.n b.c) := cell_later hb (by simp [go_sem])
  have k1_0 : w1.cell? ⟨w.heap.size + 1, 0, none⟩ = some (.bool false) := cell_later hb (by simp [go_sem])
  have k1_1 : w1.cell? ⟨w.heap.size + 1, 1, none⟩ = some (.slice none 0 0) := cell_later hb (by simp [go_sem])
  have z1 : ∀ o, w1.frozen? ⟨w.heap.size + 1, o, none⟩ = false := fun o => frozen_later hb (by simp) (by simp [go_sem])
  have HB := hide (below_on (unhide B0) hb)
  clear hb
  go_wp2
  refine bodyPost_ret (v := .tuple #[.agg #[.bool b.g, .slice b.a b.n b.c], .bool true]) (by simp [results, Try.results174, go_sem, k1_0, k1_1]) rfl ?_
  have bt := metB_but (w5 := w1) (v := b) (G := w.heap.size + 1)
  exact ⟨rfl, bt.below (unhide HB) (by omega) (unhide HB).size, ((unhide HO).later (unhide HB)).but bt (.inl (by omega))⟩

set_option maxHeartbeats 4000000 in
theorem ofFloor (q : QV) (d : QD) (w : World) (h : AllAr w [(q.num, d.num), (q.den, d.den)]) : Calls Try.prog 120 #[.agg #[.bool q.num.g, .slice q.num.a q.num.n q.num.c, .bool q.den.g, .slice q.den.a q.den.n q.den.c], .func (Fn.func 121) #[] #[], .func (Fn.func 122) #[] #[]] w (RetB w (AnsB (gQ d) (nQ d / dQ d))) := by
  have H1 := hide h
  clear h
  cases hg1 : gQ d
  · have G1 := hide (fun w1 (k : AllAr w1 [(q.num, d.num), (q.den, d.den)]) => goodQI q d w1 k)
    rw [hg1] at G1
    clear hg1
    have B0 := hide (show Below w.heap.size w ((w.alloc (.cells #[.bool q.num.g, .slice q.num.a q.num.n q.num.c, .bool q.den.g, .slice q.den.a q.den.n q.den.c] 31)).alloc (.cells #[.bool false, .slice none 0 0] 29)) from (((Below.refl _ _).alloc (by simp) _).alloc (by simp) _))
    go_enter Try.func120, Try.ntmps120
    go_wp2_with fail
    refine (unhide G1 _ ((unhide H1).later (unhide B0))).mono ?_
    rintro e w1 ⟨rfl, hb⟩
    have s1 : w.heap.size + 1 < w1.heap.size := by have := hb.size; simp at this; omega
    have k1_0 : w1.cell? ⟨w.heap.size + 1, 0, none⟩ = some (.bool false) := cell_later hb (by simp [go_sem])
    have k1_1 : w1.cell? ⟨w.heap.size + 1, 1, none⟩ = some (.slice none 0 0) := cell_later hb (by simp [go_sem])
    have z1 : ∀ o, w1.frozen? ⟨w.heap.size + 1, o, none⟩ = false := fun o => frozen_later hb (by simp) (by simp [go_sem])
    have HB := hide (below_on (unhide B0) hb)
    clear hb
    go_upto_region 3 with fail
    have hb : Below w1.heap.size w1 (w1.alloc (.cells #[.bool false, .slice none 0 0] 29)) := ((Below.refl _ _).alloc (by simp) _)
    have k2_0 : (w1.alloc (.cells #[.bool false, .slice none 0 0] 29)).cell? ⟨w1.heap.size, 0, none⟩ = some (.bool false) := by simp [go_sem]
    have k2_1 : (w1.alloc (.cells #[.bool false, .slice none 0 0] 29)).cell? ⟨w1.heap.size, 1, none⟩ = some (.slice none 0 0) := by simp [go_sem]
    replace k1_0 : (w1.alloc (.cells #[.bool false, .slice none 0 0] 29)).cell? ⟨w.heap.size + 1, 0, none⟩ = some (.bool false) := (ca_other k1_0)
    replace k1_1 : (w1.alloc (.cells #[.bool false, .slice none 0 0] 29)).cell? ⟨w.heap.size + 1, 1, none⟩ = some (.slice none 0 0) := (ca_other k1_1)
    replace z1 : ∀ o, (w1.alloc (.cells #[.bool false, .slice none 0 0] 29)).frozen? ⟨w.heap.size + 1, o, none⟩ = false := fun o => frozen_later hb (by omega) (z1 o)
    replace HB := hide (below_on (unhide HB) hb)
    have szw2 := hb.size
    clear hb
    generalize (w1.alloc (.cells #[.bool false, .slice none 0 0] 29)) = w2 at *
    go_wp2
    refine bodyPost_ret (v := .tuple #[.agg #[.bool false, .slice none 0 0], .bool false]) (by simp [results, Try.results120, go_sem, k1_0, k1_1]) rfl ?_
    exact retB_fin (v := (⟨false, none, 0, 0⟩ : BV)) (d := (⟨false, []⟩ : BD)) (R := w.heap.size + 1) (by omega) (unhide HB) (metB_but (w5 := w2) (v := (⟨false, none, 0, 0⟩ : BV)) (G := w.heap.size + 1)) (AllOwn.one ⟨rfl, .inl rfl, rfl⟩) (.inr ⟨rfl, rfl, rfl⟩)
  · have G1 := hide (fun w1 (k : AllAr w1 [(q.num, d.num), (q.den, d.den)]) => goodQI q d w1 k)
    rw [hg1] at G1
    have J := hide (isGood_of (unhide H1) hg1)
    clear hg1
    have B0 := hide (show Below w.heap.size w ((w.alloc (.cells #[.bool q.num.g, .slice q.num.a q.num.n q.num.c, .bool q.den.g, .slice q.den.a q.den.n q.den.c] 31)).alloc (.cells #[.bool false, .slice none 0 0] 29)) from (((Below.refl _ _).alloc (by simp) _).alloc (by simp) _))
    go_enter Try.func120, Try.ntmps120
    go_wp2_with fail
    refine (unhide G1 _ ((unhide H1).later (unhide B0))).mono ?_
    rintro e w1 ⟨rfl, hb⟩
    have s1 : w.heap.size + 1 < w1.heap.size := by have := hb.size; simp at this; omega
    have k0_0 : w1.cell? ⟨w.heap.size, 0, none⟩ = some (.bool q.num.g) := cell_later hb (by simp [go_sem])
    have k0_1 : w1.cell? ⟨w.heap.size, 1, none⟩ = some (.slice q.num.a q.num.n q.num.c) := cell_later hb (by simp [go_sem])
    have k0_2 : w1.cell? ⟨w.heap.size, 2, none⟩ = some (.bool q.den.g) := cell_later hb (by simp [go_sem])
    have k0_3 : w1.cell? ⟨w.heap.size, 3, none⟩ = some (.slice q.den.a q.den.n q.den.c) := cell_later hb (by simp [go_sem])
    have k1_0 : w1.cell? ⟨w.heap.size + 1, 0, none⟩ = some (.bool false) := cell_later hb (by simp [go_sem])
    have k1_1 : w1.cell? ⟨w.heap.size + 1, 1, none⟩ = some (.slice none 0 0) := cell_later hb (by simp [go_sem])
    have z1 : ∀ o, w1.frozen? ⟨w.heap.size + 1, o, none⟩ = false := fun o => frozen_later hb (by simp) (by simp [go_sem])
    have HB := hide (below_on (unhide B0) hb)
    clear hb
    go_wp2_with fail
    refine (floorO q _ _ _ ((unhide J).is.later (unhide HB)) (unhide J).pos ((unhide J).kn.mono (by omega)) ((unhide J).kd.mono (by omega))).mono ?_
    rintro e w2 ⟨x, xs, rfl, hb, ox, ax, nx⟩
    have s2 := hb.size
    have NX := hide nx
    replace z1 := fun o => frozen_later hb (World.block_lt_of_cell? _ _ k1_0) (z1 o)
    replace k1_0 := cell_later hb k1_0
    replace k1_1 := cell_later hb k1_1
    clear k0_0 k0_1 k0_2 k0_3
    have OX := hide (ox)
    replace HB := hide (below_on (unhide HB) hb)
    clear hb
    clear ox ax nx
    go_wp2_with fail
    refine (whereB x _ _ _ _ (unhide OX) (Nat.le_refl _)).mono ?_
    rintro e w3 ⟨rfl, hb, ov⟩
    have s3 := hb.size
    replace z1 := fun o => frozen_later hb (World.block_lt_of_cell? _ _ k1_0) (z1 o)
    replace k1_0 := cell_later hb k1_0
    replace k1_1 := cell_later hb k1_1
    replace OX := hide ((unhide OX).later hb)
    have OV := hide (ov)
    replace HB := hide (below_on (unhide HB) hb)
    clear hb
    clear ov
    go_wp2
    refine bodyPost_ret (v := .tuple #[.agg #[.bool x.g, .slice x.a x.n x.c], .bool true]) (by simp [results, Try.results120, go_sem, k1_0, k1_1]) rfl ?_
    exact retB_fin (v := x) (d := ⟨decide (nQ d / dQ d < 0), xs⟩) (R := w.heap.size + 1) (by omega) (unhide HB) (metB_but (w5 := w3) (v := x) (G := w.heap.size + 1)) ((unhide OV).wide (by omega) (by omega)) (.inl ⟨rfl, rfl, rfl, unhide NX, Nat.le_trans (Nm.len_le (unhide NX) ((unhide J).kn.le (floor_abs (unhide J).pos).1)) (Nat.le_refl _)⟩)

set_option maxHeartbeats 4000000 in
theorem FloorI (q : QV) (d : QD) (w : World) (h : AllAr w [(q.num, d.num), (q.den, d.den)]) : Calls Try.prog 45 #[.agg #[.bool q.num.g, .slice q.num.a q.num.n q.num.c, .bool q.den.g, .slice q.den.a q.den.n q.den.c]] w (RetB w (AnsB (gQ d) (nQ d / dQ d))) := by
  have H1 := hide h
  clear h
  have B0 := hide (show Below w.heap.size w ((w.alloc (.cells #[.bool q.num.g, .slice q.num.a q.num.n q.num.c, .bool q.den.g, .slice q.den.a q.den.n q.den.c] 31)).alloc (.cells #[.bool false, .slice none 0 0] 29)) from (((Below.refl _ _).alloc (by simp) _).alloc (by simp) _))
  go_enter Try.func45, Try.ntmps45
  go_wp2_with fail
  refine (ofFloor q d _ ((unhide H1).later (unhide B0))).mono ?_
  rintro e w1 ⟨v, dv, ok, rfl, hb, ov, hu⟩
  have s1 : w.heap.size + 1 < w1.heap.size := by have := hb.size; simp at this; omega
  have UU := hide hu
  replace ov := ov.wide (lo' := w.heap.size + 1 + 1) (by simp) (Nat.le_refl _)
  have k1_0 : w1.cell? ⟨w.heap.size + 1, 0, none⟩ = some (.bool false) := cell_later hb (by simp [go_sem])
  have k1_1 : w1.cell? ⟨w.heap.size + 1, 1, none⟩ = some (.slice none 0 0) := cell_later hb (by simp [go_sem])
  have z1 : ∀ o, w1.frozen? ⟨w.heap.size + 1, o, none⟩ = false := fun o => frozen_later hb (by simp) (by simp [go_sem])
  have OV := hide (ov)
  have HB := hide (below_on (unhide B0) hb)
  clear hb
  clear ov hu
  go_wp2
  refine bodyPost_ret (v := .tuple #[.agg #[.bool v.g, .slice v.a v.n v.c], .bool ok]) (by simp [results, Try.results45, go_sem, k1_0, k1_1]) rfl ?_
  exact retB_fin (v := v) (d := dv) (R := w.heap.size + 1) (by omega) (unhide HB) (metB_but (w5 := w1) (v := v) (G := w.heap.size + 1)) ((unhide OV).wide (by omega) (by omega)) (unhide UU)

theorem trunc_floor {N D : Int} (hD : 0 < D) : (if N < 0 ∧ (N.natAbs : Int) % (D.natAbs : Int) ≠ 0 then (sU (!(decide (N < 0) == decide (D < 0))) ((N.natAbs : Int) / (D.natAbs : Int)) - 1 = N / D ∧ decide (sU (decide (N < 0)) ((N.natAbs : Int) % (D.natAbs : Int)) < 0) = true) else (sU (!(decide (N < 0) == decide (D < 0))) ((N.natAbs : Int) / (D.natAbs : Int)) = N / D ∧ decide (sU (decide (N < 0)) ((N.natAbs : Int) % (D.natAbs : Int)) < 0) = false)) := by
  have e0 : decide (D < 0) = false := decide_eq_false (by omega)
  have p0 := Int.emod_nonneg (N.natAbs : Int) (show (D.natAbs : Int) ≠ 0 by omega)
  by_cases hN : N < 0
  · rw [e0, decide_eq_true hN]
    by_cases hr : (N.natAbs : Int) % (D.natAbs : Int) = 0
    · rw [if_neg (fun h => h.2 hr)]
      have := floor_neg0 hD hN hr
      refine ⟨this.1, decide_eq_false ?_⟩
      show ¬ -((N.natAbs : Int) % (D.natAbs : Int)) < 0
      omega
    · rw [if_pos ⟨hN, hr⟩]
      have := floor_neg hD hN hr
      refine ⟨?_, decide_eq_true ?_⟩
      · show -((N.natAbs : Int) / (D.natAbs : Int)) - 1 = N / D
        omega
      · show -((N.natAbs : Int) % (D.natAbs : Int)) < 0
        omega
  · rw [if_neg (fun h => hN h.1), e0, decide_eq_false hN]
    have := floor_pos hD hN
    refine ⟨this.1, decide_eq_false ?_⟩
    show ¬ (N.natAbs : Int) % (D.natAbs : Int) < 0
    omega
set_option maxHeartbeats 4000000 in
theorem floorS (q : QV) (N D : Int) (w : World) (h : IsQ w q N D) (hD : 0 < D) (k1 : Bd N 300000) (k2 : Bd D 300000) : Calls Try.prog 119 #[.agg #[.bool q.num.g, .slice q.num.a q.num.n q.num.c, .bool q.den.g, .slice q.den.a q.den.n q.den.c]] w (OutN w (N / D)) := by
  have H1 := hide h
  have HD := hide hD
  have K1 := hide (k1.mono (show 300000 ≤ 400000 by omega))
  have K2 := hide (k2.mono (show 300000 ≤ 400000 by omega))
  have T := trunc_floor (N := N) hD
  have KX : Hid (Bd (sU (!(decide (N < 0) == decide (D < 0))) ((N.natAbs : Int) / (D.natAbs : Int))) 400000) := hide ((k1.mono (show 300000 ≤ 400000 by omega)).le (by
    have h1 := sU_abs (g := !(decide (N < 0) == decide (D < 0))) (Int.ediv_nonneg (show 0 ≤ (N.natAbs : Int) by omega) (show 0 ≤ (D.natAbs : Int) by omega))
    have h2 := Int.ediv_le_self (D.natAbs : Int) (show 0 ≤ (N.natAbs : Int) by omega)
    omega))
  clear h hD k1 k2
  by_cases c : N < 0 ∧ (N.natAbs : Int) % (D.natAbs : Int) ≠ 0
  · rw [if_pos c] at T
    have FL := hide T.1
    have SG := hide T.2
    clear T c
    have B0 := hide (show Below w.heap.size w ((w.alloc (.cells #[.bool q.num.g, .slice q.num.a q.num.n q.num.c, .bool q.den.g, .slice q.den.a q.den.n q.den.c] 31)).alloc (.cells #[.bool false, .slice none 0 0] 29)) from (((Below.refl _ _).alloc (by simp) _).alloc (by simp) _))
    go_enter Try.func119, Try.ntmps119
    go_wp2_with fail
    refine (divS_v q.num q.den N D _ ((unhide H1).1.later (unhide B0)) ((unhide H1).2.later (unhide B0)) (by have := unhide HD; omega) (unhide K1) (unhide K2)).mono ?_
    rintro e w1 ⟨x, y, rfl, hb, ox, oy⟩
    have s1 : w.heap.size + 1 + 1 ≤ w1.heap.size := by have := hb.size; simp at this; omega
    replace ox := ox.wide (lo' := w.heap.size + 1 + 1) (by simp) (Nat.le_refl _)
    have hy : y.g = true := by obtain ⟨us, h1, h2⟩ := oy.is; have h3 := h1.sg; simp only at h3; rw [h3]; exact (unhide SG)
    obtain ⟨yg, ya, yn, yc⟩ := y
    obtain rfl : yg = true := hy
    have k1_0 : w1.cell? ⟨w.heap.size + 1, 0, none⟩ = some (.bool false) := cell_later hb (by simp [go_sem])
    have k1_1 : w1.cell? ⟨w.heap.size + 1, 1, none⟩ = some (.slice none 0 0) := cell_later hb (by simp [go_sem])
    have z1 : ∀ o, w1.frozen? ⟨w.heap.size + 1, o, none⟩ = false := fun o => frozen_later hb (by simp) (by simp [go_sem])
    have OX := hide (ox)
    have HB := hide (below_on (unhide B0) hb)
    clear hb
    clear ox oy
    go_upto_region 3 with fail
    have hb : Below w1.heap.size w1 ((w1.alloc (.cells #[.bool x.g, .slice x.a x.n x.c] 29)).alloc (.cells #[.bool true, .slice ya yn yc] 29)) := (((Below.refl _ _).alloc (by simp) _).alloc (by simp) _)
    have k2_0 : ((w1.alloc (.cells #[.bool x.g, .slice x.a x.n x.c] 29)).alloc (.cells #[.bool true, .slice ya yn yc] 29)).cell? ⟨w1.heap.size, 0, none⟩ = some (.bool x.g) := by simp [go_sem]
    have k2_1 : ((w1.alloc (.cells #[.bool x.g, .slice x.a x.n x.c] 29)).alloc (.cells #[.bool true, .slice ya yn yc] 29)).cell? ⟨w1.heap.size, 1, none⟩ = some (.slice x.a x.n x.c) := by simp [go_sem]
    replace k1_0 : ((w1.alloc (.cells #[.bool x.g, .slice x.a x.n x.c] 29)).alloc (.cells #[.bool true, .slice ya yn yc] 29)).cell? ⟨w.heap.size + 1, 0, none⟩ = some (.bool false) := (ca_other (ca_other k1_0))
    replace k1_1 : ((w1.alloc (.cells #[.bool x.g, .slice x.a x.n x.c] 29)).alloc (.cells #[.bool true, .slice ya yn yc] 29)).cell? ⟨w.heap.size + 1, 1, none⟩ = some (.slice none 0 0) := (ca_other (ca_other k1_1))
    replace z1 : ∀ o, ((w1.alloc (.cells #[.bool x.g, .slice x.a x.n x.c] 29)).alloc (.cells #[.bool true, .slice ya yn yc] 29)).frozen? ⟨w.heap.size + 1, o, none⟩ = false := fun o => frozen_later hb (by omega) (z1 o)
    replace OX := hide ((unhide OX).later hb)
    replace HB := hide (below_on (unhide HB) hb)
    have szw2 := hb.size
    clear hb
    generalize ((w1.alloc (.cells #[.bool x.g, .slice x.a x.n x.c] 29)).alloc (.cells #[.bool true, .slice ya yn yc] 29)) = w2 at *
    have ne2_1 : w1.heap.size ≠ w.heap.size + 1 := by omega
    go_region_held3 (fun w' => w'.cell? ⟨w1.heap.size, 0, none⟩ = some (.bool x.g) ∧ w'.cell? ⟨w1.heap.size, 1, none⟩ = some (.slice x.a x.n x.c)) (with_reducible (first | exact ⟨k2_0, k2_1⟩ | exact ⟨cd_other k2_0, cd_other k2_1⟩ | exact ⟨cs_other (cs_other (k2_0) ne2_1) ne2_1, cs_other (cs_other (k2_1) ne2_1) ne2_1⟩ | fail))
      (first
      | (go_at_call 98; refine (ofS_v 1 _ (by omega) (by omega)).mono ?_; rintro e w3 ⟨u, lu, rfl, hb, ou, au, nu⟩; have hbx : Below w2.heap.size w2 w3 := below_of_drew hb; have szw3 := hbx.size; replace z1 := fun o => frozen_later hbx (World.block_lt_of_cell? _ _ k1_0) (z1 o); replace k1_0 := cell_later hbx k1_0; replace k1_1 := cell_later hbx k1_1; replace k2_0 := cell_later hbx k2_0; replace k2_1 := cell_later hbx k2_1; replace OX := hide ((unhide OX).later hbx); have PU := hide (outN_ow ou au nu); have HBr := hide hbx; clear hbx hb ou au nu)
      | (go_at_call 173; refine (subS_v x u _ 1 _ ?_ ?_ (unhide KX) ((Bd.small (by decide)).mono (by omega))).mono ?_; exact (unhide OX).is.later (Below.refl _ _); exact (unhide PU).is.later (Below.refl _ _); rintro e w4 ⟨z, lz, rfl, hb, oz, az, nz⟩; have hbx : Below w3.heap.size w3 w4 := hb; have szw4 := hbx.size; replace z1 := fun o => frozen_later hbx (World.block_lt_of_cell? _ _ k1_0) (z1 o); replace k1_0 := cell_later hbx k1_0; replace k1_1 := cell_later hbx k1_1; replace k2_0 := cell_later hbx k2_0; replace k2_1 := cell_later hbx k2_1; replace OX := hide ((unhide OX).later hbx); replace PU := hide ((unhide PU).later hbx); have OZ := hide (And.intro oz (And.intro az nz)); have HBr := hide (below_on (unhide HBr) hbx); clear hbx hb oz az nz))
    replace HB := hide (below_on (unhide HB) (unhide HBr))
    clear HBr
    go_wp2
    refine bodyPost_ret (v := .agg #[.bool z.g, .slice z.a z.n z.c]) (by simp [results, Try.results119, go_sem, k1_0, k1_1]) rfl ?_
    have oo := (unhide OZ).1
    have aa := (unhide OZ).2.1
    have nn := (unhide OZ).2.2
    rw [unhide FL] at oo aa nn
    exact outN_fin (b := z) (R := w.heap.size + 1) (by omega) (unhide HB) (metB_but (w5 := w4) (v := z) (G := w.heap.size + 1)) (oo.wide (by omega) (Nat.le_refl _)) aa nn
  · rw [if_neg c] at T
    have FL := hide T.1
    have SG := hide T.2
    clear T c
    have B0 := hide (show Below w.heap.size w ((w.alloc (.cells #[.bool q.num.g, .slice q.num.a q.num.n q.num.c, .bool q.den.g, .slice q.den.a q.den.n q.den.c] 31)).alloc (.cells #[.bool false, .slice none 0 0] 29)) from (((Below.refl _ _).alloc (by simp) _).alloc (by simp) _))
    go_enter Try.func119, Try.ntmps119
    go_wp2_with fail
    refine (divS_v q.num q.den N D _ ((unhide H1).1.later (unhide B0)) ((unhide H1).2.later (unhide B0)) (by have := unhide HD; omega) (unhide K1) (unhide K2)).mono ?_
    rintro e w1 ⟨x, y, rfl, hb, ox, oy⟩
    have s1 : w.heap.size + 1 + 1 ≤ w1.heap.size := by have := hb.size; simp at this; omega
    replace ox := ox.wide (lo' := w.heap.size + 1 + 1) (by simp) (Nat.le_refl _)
    have hy : y.g = false := by obtain ⟨us, h1, h2⟩ := oy.is; have h3 := h1.sg; simp only at h3; rw [h3]; exact (unhide SG)
    obtain ⟨yg, ya, yn, yc⟩ := y
    obtain rfl : yg = false := hy
    have k1_0 : w1.cell? ⟨w.heap.size + 1, 0, none⟩ = some (.bool false) := cell_later hb (by simp [go_sem])
    have k1_1 : w1.cell? ⟨w.heap.size + 1, 1, none⟩ = some (.slice none 0 0) := cell_later hb (by simp [go_sem])
    have z1 : ∀ o, w1.frozen? ⟨w.heap.size + 1, o, none⟩ = false := fun o => frozen_later hb (by simp) (by simp [go_sem])
    have OX := hide (ox)
    have HB := hide (below_on (unhide B0) hb)
    clear hb
    clear ox oy
    go_upto_region 4 with fail
    have hb : Below w1.heap.size w1 ((w1.alloc (.cells #[.bool x.g, .slice x.a x.n x.c] 29)).alloc (.cells #[.bool false, .slice ya yn yc] 29)) := (((Below.refl _ _).alloc (by simp) _).alloc (by simp) _)
    have k2_0 : ((w1.alloc (.cells #[.bool x.g, .slice x.a x.n x.c] 29)).alloc (.cells #[.bool false, .slice ya yn yc] 29)).cell? ⟨w1.heap.size, 0, none⟩ = some (.bool x.g) := by simp [go_sem]
    have k2_1 : ((w1.alloc (.cells #[.bool x.g, .slice x.a x.n x.c] 29)).alloc (.cells #[.bool false, .slice ya yn yc] 29)).cell? ⟨w1.heap.size, 1, none⟩ = some (.slice x.a x.n x.c) := by simp [go_sem]
    replace k1_0 : ((w1.alloc (.cells #[.bool x.g, .slice x.a x.n x.c] 29)).alloc (.cells #[.bool false, .slice ya yn yc] 29)).cell? ⟨w.heap.size + 1, 0, none⟩ = some (.bool false) := (ca_other (ca_other k1_0))
    replace k1_1 : ((w1.alloc (.cells #[.bool x.g, .slice x.a x.n x.c] 29)).alloc (.cells #[.bool false, .slice ya yn yc] 29)).cell? ⟨w.heap.size + 1, 1, none⟩ = some (.slice none 0 0) := (ca_other (ca_other k1_1))
    replace z1 : ∀ o, ((w1.alloc (.cells #[.bool x.g, .slice x.a x.n x.c] 29)).alloc (.cells #[.bool false, .slice ya yn yc] 29)).frozen? ⟨w.heap.size + 1, o, none⟩ = false := fun o => frozen_later hb (by omega) (z1 o)
    replace OX := hide ((unhide OX).later hb)
    replace HB := hide (below_on (unhide HB) hb)
    have szw2 := hb.size
    clear hb
    generalize ((w1.alloc (.cells #[.bool x.g, .slice x.a x.n x.c] 29)).alloc (.cells #[.bool false, .slice ya yn yc] 29)) = w2 at *
    go_wp2
    refine bodyPost_ret (v := .agg #[.bool x.g, .slice x.a x.n x.c]) (by simp [results, Try.results119, go_sem, k1_0, k1_1]) rfl ?_
    obtain ⟨xs, o1, o2, o3⟩ := unhide OX
    rw [unhide FL] at o1 o2 o3
    exact outN_fin (b := x) (R := w.heap.size + 1) (by omega) (unhide HB) (metB_but (w5 := w2) (v := x) (G := w.heap.size + 1)) (o1.wide (by omega) (by omega)) o2 o3

set_option maxHeartbeats 2000000 in
theorem fits1 (b : BV) (d : BD) (lo hi : Nat) (w : World) (ho : AllOwn lo hi w [(b, d)]) (hn : b.n ≤ 40) : Calls Try.prog 118 #[.agg #[.bool b.g, .slice b.a b.n b.c]] w fun e w' => e = .returned (.tuple #[.agg #[.bool b.g, .slice b.a b.n b.c], .bool true]) ∧ Below w.heap.size w w' ∧ AllOwn lo hi w' [(b, d)] := by
  have t1 : decide ((40 : Int) < (b.n : Int)) = false := by simp; omega
  have HO := hide ho
  clear ho
  have HB := hide (show Below w.heap.size w ((w.alloc (.cells #[.bool b.g, .slice b.a b.n b.c] 29)).alloc (.cells #[.bool false, .slice none 0 0] 29)) from (((Below.refl _ _).alloc (by simp) _).alloc (by simp) _))
  go_enter Try.func118, Try.ntmps118
  go_wp2
  refine bodyPost_ret (v := .tuple #[.agg #[.bool b.g, .slice b.a b.n b.c], .bool true]) (by simp [results, Try.results118, go_sem]) rfl ?_
  exact ⟨rfl, by first | exact unhide HB | exact ((Below.refl _ _).alloc (by simp) _).alloc (by simp) _, ((unhide HO).later (((Below.refl _ _).alloc (by simp) _).alloc (by simp) _))⟩

set_option maxHeartbeats 4000000 in
theorem FloorS (q : QV) (d : QD) (w : World) (h : AllAr w [(q.num, d.num), (q.den, d.den)]) : Calls Try.prog 44 #[.agg #[.bool q.num.g, .slice q.num.a q.num.n q.num.c, .bool q.den.g, .slice q.den.a q.den.n q.den.c]] w (RetB w (AnsB (gQ d) (nQ d / dQ d))) := by
  have H1 := hide h
  clear h
  cases hg1 : gQ d
  · have G1 := hide (fun w1 (k : AllAr w1 [(q.num, d.num), (q.den, d.den)]) => goodQS q d w1 k)
    rw [hg1] at G1
    clear hg1
    have B0 := hide (show Below w.heap.size w ((w.alloc (.cells #[.bool q.num.g, .slice q.num.a q.num.n q.num.c, .bool q.den.g, .slice q.den.a q.den.n q.den.c] 31)).alloc (.cells #[.bool false, .slice none 0 0] 29)) from (((Below.refl _ _).alloc (by simp) _).alloc (by simp) _))
    go_enter Try.func44, Try.ntmps44
    go_wp2_with fail
    refine (unhide G1 _ ((unhide H1).later (unhide B0))).mono ?_
    rintro e w1 ⟨rfl, hb⟩
    have s1 : w.heap.size + 1 < w1.heap.size := by have := hb.size; simp at this; omega
    have k1_0 : w1.cell? ⟨w.heap.size + 1, 0, none⟩ = some (.bool false) := cell_later hb (by simp [go_sem])
    have k1_1 : w1.cell? ⟨w.heap.size + 1, 1, none⟩ = some (.slice none 0 0) := cell_later hb (by simp [go_sem])
    have z1 : ∀ o, w1.frozen? ⟨w.heap.size + 1, o, none⟩ = false := fun o => frozen_later hb (by simp) (by simp [go_sem])
    have HB := hide (below_on (unhide B0) hb)
    clear hb
    go_wp2
    refine bodyPost_ret (v := .tuple #[.agg #[.bool false, .slice none 0 0], .bool false]) (by simp [results, Try.results44, go_sem, k1_0, k1_1]) rfl ?_
    exact retB_fin (v := (⟨false, none, 0, 0⟩ : BV)) (d := (⟨false, []⟩ : BD)) (R := w.heap.size + 1) (by omega) (unhide HB) (metB_but (w5 := w1) (v := (⟨false, none, 0, 0⟩ : BV)) (G := w.heap.size + 1)) (AllOwn.one ⟨rfl, .inl rfl, rfl⟩) (.inr ⟨rfl, rfl, rfl⟩)
  · have G1 := hide (fun w1 (k : AllAr w1 [(q.num, d.num), (q.den, d.den)]) => goodQS q d w1 k)
    rw [hg1] at G1
    have J := hide (isGood_of (unhide H1) hg1)
    clear hg1
    have B0 := hide (show Below w.heap.size w ((w.alloc (.cells #[.bool q.num.g, .slice q.num.a q.num.n q.num.c, .bool q.den.g, .slice q.den.a q.den.n q.den.c] 31)).alloc (.cells #[.bool false, .slice none 0 0] 29)) from (((Below.refl _ _).alloc (by simp) _).alloc (by simp) _))
    go_enter Try.func44, Try.ntmps44
    go_wp2_with fail
    refine (unhide G1 _ ((unhide H1).later (unhide B0))).mono ?_
    rintro e w1 ⟨rfl, hb⟩
    have s1 : w.heap.size + 1 < w1.heap.size := by have := hb.size; simp at this; omega
    have k0_0 : w1.cell? ⟨w.heap.size, 0, none⟩ = some (.bool q.num.g) := cell_later hb (by simp [go_sem])
    have k0_1 : w1.cell? ⟨w.heap.size, 1, none⟩ = some (.slice q.num.a q.num.n q.num.c) := cell_later hb (by simp [go_sem])
    have k0_2 : w1.cell? ⟨w.heap.size, 2, none⟩ = some (.bool q.den.g) := cell_later hb (by simp [go_sem])
    have k0_3 : w1.cell? ⟨w.heap.size, 3, none⟩ = some (.slice q.den.a q.den.n q.den.c) := cell_later hb (by simp [go_sem])
    have k1_0 : w1.cell? ⟨w.heap.size + 1, 0, none⟩ = some (.bool false) := cell_later hb (by simp [go_sem])
    have k1_1 : w1.cell? ⟨w.heap.size + 1, 1, none⟩ = some (.slice none 0 0) := cell_later hb (by simp [go_sem])
    have z1 : ∀ o, w1.frozen? ⟨w.heap.size + 1, o, none⟩ = false := fun o => frozen_later hb (by simp) (by simp [go_sem])
    have HB := hide (below_on (unhide B0) hb)
    clear hb
    go_wp2_with fail
    refine (floorS q _ _ _ ((unhide J).is.later (unhide HB)) (unhide J).pos ((unhide J).kn.mono (by omega)) ((unhide J).kd.mono (by omega))).mono ?_
    rintro e w2 ⟨x, xs, rfl, hb, ox, ax, nx⟩
    have s2 := hb.size
    have NX := hide nx
    have lx : x.n ≤ 40 := by have h1 := ax.head.ar.len; simp only at h1; rw [← h1]; exact nx.len_le ((unhide J).kn.le (floor_abs (unhide J).pos).1)
    replace z1 := fun o => frozen_later hb (World.block_lt_of_cell? _ _ k1_0) (z1 o)
    replace k1_0 := cell_later hb k1_0
    replace k1_1 := cell_later hb k1_1
    clear k0_0 k0_1 k0_2 k0_3
    have OX := hide (ox)
    replace HB := hide (below_on (unhide HB) hb)
    clear hb
    clear ox ax nx
    go_wp2_with fail
    refine (fits1 x _ _ _ _ (unhide OX) lx).mono ?_
    rintro e w3 ⟨rfl, hb, ov⟩
    have s3 := hb.size
    replace z1 := fun o => frozen_later hb (World.block_lt_of_cell? _ _ k1_0) (z1 o)
    replace k1_0 := cell_later hb k1_0
    replace k1_1 := cell_later hb k1_1
    replace OX := hide ((unhide OX).later hb)
    have OV := hide (ov)
    replace HB := hide (below_on (unhide HB) hb)
    clear hb
    clear ov
    go_wp2
    refine bodyPost_ret (v := .tuple #[.agg #[.bool x.g, .slice x.a x.n x.c], .bool true]) (by simp [results, Try.results44, go_sem, k1_0, k1_1]) rfl ?_
    exact retB_fin (v := x) (d := ⟨decide (nQ d / dQ d < 0), xs⟩) (R := w.heap.size + 1) (by omega) (unhide HB) (metB_but (w5 := w3) (v := x) (G := w.heap.size + 1)) ((unhide OV).wide (by omega) (by omega)) (.inl ⟨rfl, rfl, rfl, unhide NX, Nat.le_trans (Nm.len_le (unhide NX) ((unhide J).kn.le (floor_abs (unhide J).pos).1)) (Nat.le_refl _)⟩)
end Go.Proofs.Ytgekkmibddfakaa
namespace Go.Proofs.Ytgekkmibddfakaa
open Go.RowKit
set_option linter.unusedVariables false
set_option maxRecDepth 100000
set_option linter.unusedSimpArgs false

structure TlawFloor (w wx : World) (v0 : QV) (d0 : QD) : Prop where
  bel : Below w.heap.size w wx
  x0_0 : wx.cell? ⟨w.heap.size, 0, none⟩ = some (.bool v0.num.g)
  x0_1 : wx.cell? ⟨w.heap.size, 1, none⟩ = some (.slice v0.num.a v0.num.n v0.num.c)
  x0_2 : wx.cell? ⟨w.heap.size, 2, none⟩ = some (.bool v0.den.g)
  x0_3 : wx.cell? ⟨w.heap.size, 3, none⟩ = some (.slice v0.den.a v0.den.n v0.den.c)
  s0 : AllSl wx [(v0.num, d0.num), (v0.den, d0.den)]
theorem TlawFloor.later {w wx wy : World} {v0 : QV} {d0 : QD} (h : TlawFloor w wx v0 d0) (hb : Below wx.heap.size wx wy) : TlawFloor w wy v0 d0 :=
  ⟨below_on h.bel hb, cell_later hb h.x0_0, cell_later hb h.x0_1, cell_later hb h.x0_2, cell_later hb h.x0_3, h.s0.later hb⟩
theorem TlawFloor.but {w wx wy : World} {v0 : QV} {d0 : QD} {lo hi : Nat} (h : TlawFloor w wx v0 d0) (hb : But lo hi wx wy) (hl : w.heap.size + 1 ≤ lo) (hx0 : AllSl w [(v0.num, d0.num), (v0.den, d0.den)]) : TlawFloor w wy v0 d0 := by
  have hB := hb.below h.bel (by omega) h.bel.size
  exact ⟨hB, hb.cell h.x0_0 (by omega), hb.cell h.x0_1 (by omega), hb.cell h.x0_2 (by omega), hb.cell h.x0_3 (by omega), hx0.later hB⟩
theorem TlawFloor.start (w : World) (v0 : QV) (d0 : QD) (t0 : TypeId) (hx0 : AllSl w [(v0.num, d0.num), (v0.den, d0.den)]) : TlawFloor w (w.alloc (.cells #[.bool v0.num.g, .slice v0.num.a v0.num.n v0.num.c, .bool v0.den.g, .slice v0.den.a v0.den.n v0.den.c] t0)) v0 d0 := by
  have hb : Below w.heap.size w (w.alloc (.cells #[.bool v0.num.g, .slice v0.num.a v0.num.n v0.num.c, .bool v0.den.g, .slice v0.den.a v0.den.n v0.den.c] t0)) := (Below.refl _ _).alloc (Nat.le_refl _) _
  exact ⟨hb, by simp [go_sem], by simp [go_sem], by simp [go_sem], by simp [go_sem], hx0.later hb⟩

set_option maxHeartbeats 1000000 in
theorem lawFloor_out0 (v0 : QV) (w : World) (m0 : v0.num.n ≤ maxLen) (m1 : v0.den.n ≤ maxLen) (h0 : 0 ≤ 1048576) (h : 1048576 < v0.num.n + v0.den.n) :
    Calls Try.prog 10 #[.agg #[.bool v0.num.g, .slice v0.num.a v0.num.n v0.num.c, .bool v0.den.g, .slice v0.den.a v0.den.n v0.den.c]] w fun e w' => e = .returned (.bool true) ∧ Below w.heap.size w w' := by
  go_enter Try.func10, Try.ntmps10
  go_wp2_with fail
  refine (szQ_out v0 _ _ (by omega) (by omega) m0 m1 (by omega)).mono ?_
  rintro e w1 ⟨rfl, hb⟩
  have HB := hide (ba hb)
  clear hb
  go_wp2
  go_ret
  exact ⟨rfl, unhide HB⟩

set_option maxRecDepth 100000 in
set_option maxHeartbeats 16000000 in
theorem lawFloor_in (v0 : QV) (d0 : QD) (w : World) (hx0 : AllSl w [(v0.num, d0.num), (v0.den, d0.den)])  (h : v0.num.n + v0.den.n ≤ 1048576) :
    Calls Try.prog 10 #[.agg #[.bool v0.num.g, .slice v0.num.a v0.num.n v0.num.c, .bool v0.den.g, .slice v0.den.a v0.den.n v0.den.c]] w fun e w' => e = .returned (.bool true) ∧ Below w.heap.size w w' := by
  have HX0 := hide hx0
  clear hx0
  have l0 : v0.num.n ≤ 1048576 := by omega
  have lm0 : v0.num.n ≤ maxLen := by unfold maxLen; omega
  have l1 : v0.den.n ≤ 1048576 := by omega
  have lm1 : v0.den.n ≤ maxLen := by unfold maxLen; omega
  have hd0 : ¬ ((1048576 : Int) - (v0.num.n : Int) - (v0.den.n : Int) < 0) := by omega
  obtain ⟨U, HU⟩ : ∃ U : BD → Bool → Prop, Hid (U = AnsB (gQ d0) (nQ d0 / dQ d0)) := ⟨_, hide rfl⟩
  have US : Hid (∀ d ok d' ok', U d ok → U d' ok' → d = d' ∧ ok = ok') := hide (by rw [unhide HU]; exact fun d ok d' ok' h k => h.same k)
  have UL : Hid (∀ d ok, U d ok → d.xs.length ≤ 40) := hide (by rw [unhide HU]; exact fun d ok h => h.lens)
  have CS : Hid (∀ (q0 : QV) (w : World), AllAr w [(q0.num, d0.num), (q0.den, d0.den)] → Calls Try.prog 44 #[.agg #[.bool q0.num.g, .slice q0.num.a q0.num.n q0.num.c, .bool q0.den.g, .slice q0.den.a q0.den.n q0.den.c]] w (RetB w U)) := hide (by rw [unhide HU]; exact fun q0 w h0 => FloorS q0 d0 w h0)
  have CI : Hid (∀ (q0 : QV) (w : World), AllAr w [(q0.num, d0.num), (q0.den, d0.den)] → Calls Try.prog 45 #[.agg #[.bool q0.num.g, .slice q0.num.a q0.num.n q0.num.c, .bool q0.den.g, .slice q0.den.a q0.den.n q0.den.c]] w (RetB w U)) := hide (by rw [unhide HU]; exact fun q0 w h0 => FloorI q0 d0 w h0)
  clear HU
  go_enter Try.func10, Try.ntmps10
  go_wp2_with fail
  refine (szQ_in v0 _ _ (by omega) (by omega) (by omega)).mono ?_
  rintro e w1 ⟨rfl, hb⟩
  have T := hide ((TlawFloor.start w v0 d0 26 (unhide HX0)).later hb)
  have z : w.heap.size + 1 ≤ w1.heap.size := by have := hb.size; simp at this; omega
  clear hb
  have p0 := (unhide T).x0_0
  have p1 := (unhide T).x0_1
  have p2 := (unhide T).x0_2
  have p3 := (unhide T).x0_3
  go_wp2_with fail
  refine (toQ_at v0 d0 _ (unhide T).s0 l0 l1).mono ?_
  rintro e wa0x ⟨qa0, rfl, hb, hna, ow, ar⟩
  replace T := hide ((unhide T).later hb)
  have A0 := hide ar
  have sa0x := hb.size
  clear hb hna ow ar p0 p1 p2 p3
  go_wp2_with fail
  refine (unhide CS qa0 _ (unhide A0)).mono ?_
  rintro e ws ⟨vr, dr, okr, rfl, hb, hown, hu⟩
  have V0 := hide (VarB.start 29 hown)
  have UR := hide hu
  have ss := hb.size
  replace T := hide (((unhide T).later hb).later ((Below.refl _ _).alloc (Nat.le_refl _) (.cells #[.bool vr.g, .slice vr.a vr.n vr.c] 29)))
  clear hb hown hu A0
  have zG1 : w.heap.size + 1 ≤ ws.heap.size := by omega
  have r0 : vr.n ≤ 40 := by rw [← ((unhide V0).own.own (vr, dr) (by simp)).len]; exact (unhide UL _ _ (unhide UR))
  have rm0 : vr.n ≤ maxLen := by unfold maxLen; omega
  have rl0 : vr.n ≤ 1048576 := by omega
  have p0 := (unhide T).x0_0
  have p1 := (unhide T).x0_1
  have p2 := (unhide T).x0_2
  have p3 := (unhide T).x0_3
  go_wp2_with fail
  refine (toQ_at v0 d0 _ (unhide T).s0 l0 l1).mono ?_
  rintro e wx0 ⟨y0, rfl, hb, hnn, ow0, ar0⟩
  have hn0 := hide hnn
  clear hnn
  have VX0 := hide (VarQ.start 31 (ow0.wide (lo' := ws.heap.size + 1) (by simp) (Nat.le_refl _)))
  have AX0 := hide (ar0.later ((Below.refl _ _).alloc (Nat.le_refl _) (.cells #[.bool y0.num.g, .slice y0.num.a y0.num.n y0.num.c, .bool y0.den.g, .slice y0.den.a y0.den.n y0.den.c] 31)))
  have s0 : ws.heap.size + 1 ≤ wx0.heap.size := by have := hb.size; simp at this; omega
  replace V0 := hide ((unhide V0).later hb)
  replace T := hide ((unhide T).later hb)
  replace V0 := hide ((unhide V0).later ((Below.refl _ _).alloc (Nat.le_refl _) (.cells #[.bool y0.num.g, .slice y0.num.a y0.num.n y0.num.c, .bool y0.den.g, .slice y0.den.a y0.den.n y0.den.c] 31)))
  replace T := hide ((unhide T).later ((Below.refl _ _).alloc (Nat.le_refl _) (.cells #[.bool y0.num.g, .slice y0.num.a y0.num.n y0.num.c, .bool y0.den.g, .slice y0.den.a y0.den.n y0.den.c] 31)))
  clear hb ow0 ar0 p0 p1 p2 p3
  go_wp2_with fail
  refine (unhide CI y0 _ (unhide AX0)).mono ?_
  rintro e w5 ⟨vg, dg, okg, rfl, hb, hown, hu⟩
  obtain ⟨e1, e2⟩ := unhide US _ _ _ _ (unhide UR) hu
  subst e1 e2
  have VG := hide (VarB.start 29 (hown.wide (lo' := wx0.heap.size + 1) (by simp) (Nat.le_refl _)))
  have sg : wx0.heap.size + 1 ≤ w5.heap.size := by have := hb.size; simp at this; omega
  have en0 : vg.n = vr.n := by rw [← ((unhide VG).own.own (vg, dr) (by simp)).len, ← ((unhide V0).own.own (vr, dr) (by simp)).len]
  have q0 : vg.n ≤ 40 := by omega
  have qm0 : vg.n ≤ maxLen := by omega
  have ql0 : vg.n ≤ 1048576 := by omega
  clear AX0
  replace V0 := hide ((unhide V0).later hb)
  replace T := hide ((unhide T).later hb)
  replace VX0 := hide ((unhide VX0).later hb)
  clear hb hown hu
  replace V0 := hide ((unhide V0).later ((Below.refl _ _).alloc (Nat.le_refl _) (.cells #[.bool vg.g, .slice vg.a vg.n vg.c] 29)))
  replace T := hide ((unhide T).later ((Below.refl _ _).alloc (Nat.le_refl _) (.cells #[.bool vg.g, .slice vg.a vg.n vg.c] 29)))
  replace VX0 := hide ((unhide VX0).later ((Below.refl _ _).alloc (Nat.le_refl _) (.cells #[.bool vg.g, .slice vg.a vg.n vg.c] 29)))
  have enh0 := hide en0
  clear en0
  have p0 := (unhide V0).c0
  have p1 := (unhide V0).c1
  go_wp2_with fail
  refine (eqB_at vg vr dr _ (unhide VG).own.sl.head (unhide V0).own.sl.head qm0).mono ?_
  rintro e w6 ⟨rfl, hb⟩
  clear p0 p1
  replace V0 := hide ((unhide V0).later hb)
  replace T := hide ((unhide T).later hb)
  replace VX0 := hide ((unhide VX0).later hb)
  replace VG := hide ((unhide VG).later hb)
  clear hb
  generalize wx0.heap.size = GX0 at *
  generalize w5.heap.size = GG at *
  generalize ws.heap.size = GC at *
  go_wp2_with fail
  have ka0 := (unhide T).x0_0
  have kx0 := (unhide VX0).c0
  have ka1 := (unhide T).x0_1
  have kx1 := (unhide VX0).c1
  have ka2 := (unhide T).x0_2
  have kx2 := (unhide VX0).c2
  have ka3 := (unhide T).x0_3
  have kx3 := (unhide VX0).c3
  go_region_held3 (fun w' => w'.cell? ⟨w.heap.size, 0, none⟩ = some (.bool v0.num.g) ∧ w'.cell? ⟨w.heap.size, 1, none⟩ = some (.slice v0.num.a v0.num.n v0.num.c) ∧ w'.cell? ⟨w.heap.size, 2, none⟩ = some (.bool v0.den.g) ∧ w'.cell? ⟨w.heap.size, 3, none⟩ = some (.slice v0.den.a v0.den.n v0.den.c) ∧ w'.cell? ⟨GX0, 0, none⟩ = some (.bool y0.num.g) ∧ w'.cell? ⟨GX0, 1, none⟩ = some (.slice y0.num.a y0.num.n y0.num.c) ∧ w'.cell? ⟨GX0, 2, none⟩ = some (.bool y0.den.g) ∧ w'.cell? ⟨GX0, 3, none⟩ = some (.slice y0.den.a y0.den.n y0.den.c)) (with_reducible (first | exact ⟨ka0, ka1, ka2, ka3, kx0, kx1, kx2, kx3⟩ | exact ⟨cd_other ka0, cd_other ka1, cd_other ka2, cd_other ka3, cd_other kx0, cd_other kx1, cd_other kx2, cd_other kx3⟩ | fail))
    (first
    | (go_at_call 27; refine (toQ_at v0 d0 _ ?_ l0 l1).mono ?_; exact (unhide T).s0.later (Below.refl _ _).drew; rintro e w7 ⟨u7, rfl, hb', hn7, ow7, ar7⟩; have hb := below_of_drew hb'; replace V0 := hide ((unhide V0).later hb); replace T := hide ((unhide T).later hb); replace VX0 := hide ((unhide VX0).later hb); replace VG := hide ((unhide VG).later hb); replace ka0 := (unhide T).x0_0; replace kx0 := (unhide VX0).c0; replace ka1 := (unhide T).x0_1; replace kx1 := (unhide VX0).c1; replace ka2 := (unhide T).x0_2; replace kx2 := (unhide VX0).c2; replace ka3 := (unhide T).x0_3; replace kx3 := (unhide VX0).c3; have S7 := hide ow7.sl; clear hb hb' ow7 ar7 hn7)
    | (go_at_call 29; refine (eqQ_at y0 u7 d0 _ (unhide VX0).own.sl (unhide S7) (by rw [(unhide hn0).1]; exact lm0) (by rw [(unhide hn0).2]; exact lm1)).mono ?_; rintro e w8 ⟨rfl, hb⟩; replace V0 := hide ((unhide V0).later hb); replace T := hide ((unhide T).later hb); replace VX0 := hide ((unhide VX0).later hb); replace VG := hide ((unhide VG).later hb); replace ka0 := (unhide T).x0_0; replace kx0 := (unhide VX0).c0; replace ka1 := (unhide T).x0_1; replace kx1 := (unhide VX0).c1; replace ka2 := (unhide T).x0_2; replace kx2 := (unhide VX0).c2; replace ka3 := (unhide T).x0_3; replace kx3 := (unhide VX0).c3; clear hb))
  clear S7 ka0 kx0 ka1 kx1 ka2 kx2 ka3 kx3
  have p0 := (unhide VX0).c0
  have p1 := (unhide VX0).c1
  have p2 := (unhide VX0).c2
  have p3 := (unhide VX0).c3
  have hl0 : y0.num.n ≤ 1048576 := by rw [(unhide hn0).1]; exact l0
  have hl1 : y0.den.n ≤ 1048576 := by rw [(unhide hn0).2]; exact l1
  go_wp2_with fail
  refine (markQ_at y0 d0 [] [] 1 (GC + 1) GX0 _ (unhide VX0).own hl0 hl1 (by have := (unhide VX0).gt; omega) (by omega) (by have := (unhide hn0).1; have := (unhide hn0).2; omega)).mono ?_
  rintro e w10 ⟨rfl, hbt, hmk⟩
  replace T := hide ((unhide T).but hbt (by omega) (unhide HX0))
  replace V0 := hide ((unhide V0).but hbt (by omega) (by omega))
  replace VG := hide ((unhide VG).but hbt (by omega) (by omega))
  clear VX0 p0 p1 p2 p3 hbt hmk hl0 hl1
  have hk0 : decide ((1 : Int) + (y0.num.n : Int) + (y0.den.n : Int) < 0) = false := by simp; omega
  have p0 := (unhide VG).c0
  have pq0 := (unhide V0).c0
  have p1 := (unhide VG).c1
  have pq1 := (unhide V0).c1
  go_wp2_with fail
  refine (eqB_at vg vr dr _ (unhide VG).own.sl.head (unhide V0).own.sl.head qm0).mono ?_
  rintro e w20 ⟨rfl, hb⟩
  clear p0 pq0 p1 pq1 hk0
  replace V0 := hide ((unhide V0).later hb)
  replace T := hide ((unhide T).later hb)
  replace VG := hide ((unhide VG).later hb)
  clear hb
  have p0 := (unhide VG).c0
  have p1 := (unhide VG).c1
  go_wp2_with fail
  refine (markB_at vg dr [] [] 1 (GX0 + 1) GG _ (unhide VG).own ql0 (by omega) (by omega)).mono ?_
  rintro e w21 ⟨rfl, hbt, hmk⟩
  replace T := hide ((unhide T).but hbt (by omega) (unhide HX0))
  replace V0 := hide ((unhide V0).but hbt (by omega) (by omega))
  replace VG := hide ((unhide VG).mark (d' := ⟨dr.g, marks (1) vg.n⟩) hbt (by omega) hmk)
  clear p0 p1 hbt hmk
  have p0 := (unhide VG).c0
  have p1 := (unhide VG).c1
  go_wp2_with fail
  refine (heldB_at vg 1 _ ((unhide VG).own.sl (vg, ⟨dr.g, marks (1) vg.n⟩) (by simp)).sl ql0 (by omega) (by omega)).mono ?_
  rintro e wk ⟨rfl, hb⟩
  replace V0 := hide ((unhide V0).later hb)
  replace T := hide ((unhide T).later hb)
  replace VG := hide ((unhide VG).later hb)
  have hr0 : ¬ ((1 : Int) + (vg.n : Int) < 0) := by omega
  have zk : w.heap.size + 1 ≤ wk.heap.size := by have h1 := (unhide VG).gt; omega
  clear p0 p1 hb
  have p0 := (unhide T).x0_0
  have p1 := (unhide T).x0_1
  have p2 := (unhide T).x0_2
  have p3 := (unhide T).x0_3
  go_wp2_with fail
  refine (toQ_at v0 d0 _ (unhide T).s0 l0 l1).mono ?_
  rintro e wa0y ⟨qa0, rfl, hb, hna, ow, ar⟩
  replace T := hide ((unhide T).later hb)
  replace V0 := hide ((unhide V0).later hb)
  replace VG := hide ((unhide VG).later hb)
  have A0 := hide ar
  have sa0y := hb.size
  clear hb hna ow ar p0 p1 p2 p3
  go_wp2_with fail
  refine (unhide CI qa0 _ (unhide A0)).mono ?_
  rintro e wh ⟨vh, dh, okh, rfl, hb, hown, hu⟩
  obtain ⟨e1, e2⟩ := unhide US _ _ _ _ (unhide UR) hu
  subst e1 e2
  have VH := hide (VarB.start 29 hown)
  replace T := hide ((unhide T).later hb)
  replace V0 := hide ((unhide V0).later hb)
  replace VG := hide ((unhide VG).later hb)
  replace T := hide ((unhide T).later ((Below.refl _ _).alloc (Nat.le_refl _) (.cells #[.bool vh.g, .slice vh.a vh.n vh.c] 29)))
  replace V0 := hide ((unhide V0).later ((Below.refl _ _).alloc (Nat.le_refl _) (.cells #[.bool vh.g, .slice vh.a vh.n vh.c] 29)))
  replace VG := hide ((unhide VG).later ((Below.refl _ _).alloc (Nat.le_refl _) (.cells #[.bool vh.g, .slice vh.a vh.n vh.c] 29)))
  clear hb hown hu A0
  have hm0 : vh.n ≤ maxLen := by rw [← ((unhide VH).own.own (vh, dr) (by simp)).len, ((unhide V0).own.own (vr, dr) (by simp)).len]; exact rm0
  have p0 := (unhide VH).c0
  have pq0 := (unhide V0).c0
  have p1 := (unhide VH).c1
  have pq1 := (unhide V0).c1
  go_wp2_with fail
  refine (eqB_at vh vr dr _ (unhide VH).own.sl.head (unhide V0).own.sl.head hm0).mono ?_
  rintro e w30 ⟨rfl, hb⟩
  clear p0 pq0 p1 pq1
  replace T := hide ((unhide T).later hb)
  replace VG := hide ((unhide VG).later hb)
  clear hb VH V0
  have p0 := (unhide VG).c0
  have p1 := (unhide VG).c1
  go_wp2_with fail
  refine (heldB_at vg 1 _ ((unhide VG).own.sl (vg, ⟨dr.g, marks (1) vg.n⟩) (by simp)).sl ql0 (by omega) (by omega)).mono ?_
  rintro e w31 ⟨rfl, hb⟩
  replace T := hide ((unhide T).later hb)
  clear p0 p1 hb
  go_wp2
  go_ret
  exact ⟨rfl, (unhide T).bel⟩

theorem lawFloor_walk (v0 : QV) (d0 : QD) (w : World) (hx0 : AllSl w [(v0.num, d0.num), (v0.den, d0.den)])  (m0 : v0.num.n ≤ maxLen) (m1 : v0.den.n ≤ maxLen) :
    Calls Try.prog 10 #[.agg #[.bool v0.num.g, .slice v0.num.a v0.num.n v0.num.c, .bool v0.den.g, .slice v0.den.a v0.den.n v0.den.c]] w fun e w' => e = .returned (.bool true) ∧ Below w.heap.size w w' := by
  by_cases g0 : v0.num.n + v0.den.n ≤ 1048576
  · exact lawFloor_in v0 d0 w hx0  g0
  · exact lawFloor_out0 v0 w m0 m1 (by omega) (by omega)
end Go.Proofs.Ytgekkmibddfakaa
namespace Go.Proofs.Ytgekkmibddfakaa
open Go.ChangeShapes Go.WideShapes Go.ChangeAt Go.RowKit Go.Joins
set_option linter.unusedVariables false
set_option maxRecDepth 100000
set_option linter.unusedSimpArgs false

set_option maxRecDepth 100000 in
theorem floor_holds_lifted (os : Os) (started : os.Started) (H : Type) (enc : TypeId × Value → H) :
    ReturnsInHanded {} Try.checked os 10 .any (Rows.fnExactFloorRatSpec.pre6 enc Try.prog Try.f10 Rows.fnExactFloorRatRow.domain false) (Rows.fnExactFloorRatSpec.post enc Try.prog Try.f10 false true false false) := by
  refine returnsInHanded_of_change (C := Try.checked) own started (by kernel_rfl) Try.func10
    (ChangeSpec.witness6 (enc := enc) (C := Try.checked) false ⟨#[], #[.agg #[.bool false, .slice none 0 0, .bool false, .slice none 0 0]], []⟩ 8 (by kernel_rfl) (by kernel_rfl) (by kernel_rfl) (by kernel_rfl)) ?_
  intro W base args ds gs before hval0 hW hcnd _
  have hval : ∀ (j : Nat) t v, Try.f10.params[j]? = some t → args[j]? = some v → Value.okWide Try.prog W .any base t v := hval0
  have hW' := hW
  obtain ⟨p, q, hA0, hV, rfl, hfz, hnd⟩ := hW
  have hA : DataW.TrodAll enc Try.prog W 0 (fun _ => true) true Try.f10.params.toList args.toList ds p := hA0
  rw [Try.params10] at hA hval
  obtain ⟨v0, vs0, d0, ds0, p0, q0, hargs, rfl, rfl, h0, r0⟩ := trodAll_cons hA
  obtain ⟨rfl, rfl, rfl⟩ := trodAll_nil r0
  obtain rfl : args = #[v0] := by cases args; simp_all
  obtain ⟨rfl, rfl⟩ := trodVars_none hV
  have lt0 : ∀ x ∈ p0, x.block < W.heap.size := by obtain ⟨m, hm⟩ := h0; exact DataW.trod_lt m _ _ _ hm
  obtain ⟨u0, e0, rfl, sl0, m0_0, m0_1⟩ := open_Q (hval 0 26 v0 rfl rfl) h0
  clear hA0 hval0
  refine (lawFloor_walk u0 e0 W sl0 m0_0 m0_1).mono fun e W' ⟨he, bel⟩ => ?_
  subst he
  exact ⟨_, rfl, _, _, _, [], _, [], hW', trodAll_mk1 (shut_bool Try.underlying4 _), (trodAll_cons_mk (Below.trod laidOut (by kernel_rfl) (of_decide_eq_true (by kernel_rfl)) h0 bel lt0) trodAll_mk0), rfl, bel.frame _, fun h => by cases h⟩

theorem floor_holds_c0 : (Rows.fnExactFloorRatRow.wf (OpenSpec.ofChange Rows.fnExactFloorRatSpec)) = true := by kernel_rfl
theorem floor_holds_c1 : (laidOutB Try.pinned.checked.prog) = true := by kernel_rfl
theorem floor_holds_c2 : (mapsRowed Try.pinned.checked.prog) = true := by kernel_rfl
theorem floor_holds_c3 : (Try.f10.params.all (Try.pinned.checked.prog.readableRec ·)) = true := by kernel_rfl
theorem floor_holds_c4 : (namedTie Try.pinned.checked.prog Rows.fnExactFloorRatRow.named Rows.fnExactFloorRatSpec.vars) = true := by kernel_rfl
theorem floor_holds_c5 : (Rows.fnExactFloorRatRow.stops == []) = true := by kernel_rfl
theorem floor_holds_c6 : (Try.pinned.checked.prog.stops == []) = true := by kernel_rfl
theorem floor_holds_c7 : (Rows.fnExactFloorRatRow.knobs == []) = true := by kernel_rfl
theorem floor_holds_c8 : (Try.pinned.checked.prog.stopKnobs == []) = true := by kernel_rfl
theorem floor_holds_c9 : (Rows.fnExactFloorRatRow.inPlace == Try.pinned.checked.prog.inPlace 10) = true := by kernel_rfl
theorem floor_holds_c10 : (Rows.fnExactFloorRatRow.unfollowed == Try.pinned.checked.prog.unfollowed 10) = true := by kernel_rfl
theorem floor_holds_c11 : (Rows.fnExactFloorRatRow.recurses == Try.pinned.checked.prog.recurses 10) = true := by kernel_rfl
theorem floor_holds_c12 : (Rows.fnExactFloorRatRow.named == Try.pinned.checked.prog.varsNamed 10) = true := by kernel_rfl
theorem floor_holds_c13 : (Rows.fnExactFloorRatRow.maps == (Try.f10.params.toList ++ Rows.fnExactFloorRatSpec.plain.varTypes Try.pinned.checked.prog).any (Try.pinned.checked.prog.mapsRec ·)) = true := by kernel_rfl
theorem floor_holds_c14 : (Rows.fnExactFloorRatRow.ifaces == (Try.f10.params.toList ++ Rows.fnExactFloorRatSpec.plain.varTypes Try.pinned.checked.prog).any (Try.pinned.checked.prog.ifacesRec ·)) = true := by kernel_rfl
theorem floor_holds_c15 : (Rows.fnExactFloorRatRow.mapsOut == Try.pinned.checked.prog.mapsAmong Try.f10.resultTypes.toList) = true := by kernel_rfl
theorem floor_holds_c16 : (Rows.fnExactFloorRatRow.loops == (Try.f10.params.toList ++ Rows.fnExactFloorRatSpec.plain.varTypes Try.pinned.checked.prog).any (Try.pinned.checked.prog.loopsFrom ·)) = true := by kernel_rfl
theorem floor_holds_c17 : (Rows.fnExactFloorRatRow.wideKeys == (Try.f10.params.toList ++ Rows.fnExactFloorRatSpec.plain.varTypes Try.pinned.checked.prog ++ Try.f10.resultTypes.toList).any (Try.pinned.checked.prog.wideKeysFrom ·)) = true := by kernel_rfl
theorem floor_holds_c18 : (Rows.fnExactFloorRatSpec.vars.all (Try.pinned.checked.prog.varReadable ·)) = true := by kernel_rfl
theorem floor_holds_c19 : (Try.f10.resultTypes.all (fun t => Try.pinned.checked.prog.readableRec t && decide (t < Try.pinned.checked.prog.types.size))) = true := by kernel_rfl
theorem floor_holds_c20 : (Rows.fnExactFloorRatRow.ifacesOut == Try.f10.resultTypes.toList.any (Try.pinned.checked.prog.ifacesRec ·)) = true := by kernel_rfl
theorem floor_holds_c21 : (Rows.fnExactFloorRatRow.loopsOut == Try.f10.resultTypes.toList.any (Try.pinned.checked.prog.loopsFrom ·)) = true := by kernel_rfl
theorem floor_holds_c22 : (Rows.fnExactFloorRatRow.plainKeys == Try.pinned.checked.prog.plainKeys) = true := by kernel_rfl
theorem floor_holds_c23 : (Rows.fnExactFloorRatRow.shortTexts.isNone) = true := by kernel_rfl
theorem floor_holds_c24 : (Try.pinned.checked.prog.stopsHeard) = true := by kernel_rfl
theorem floor_holds_c25 : (Try.pinned.checked.prog.mayEnter) = true := io_enter
theorem floor_holds_c26 : (Rows.fnExactFloorRatRow.lifted == Try.pinned.checked.prog.liftsFinal) = true := by rw [io_lifts]; kernel_rfl
theorem floor_holds_c27 : (Try.pinned.checked.prog.make == some Rows.fnExactFloorRatRow.make) = true := by rw [io_make]; kernel_rfl
theorem floor_holds_c28 : (Rows.fnExactFloorRatRow.kinds == (if Rows.fnExactFloorRatRow.domain.isEmpty then [] else Try.f10.params.toList.map fun t => match Try.pinned.checked.prog.underlying t with | some (.int k) => some k | _ => none)) = true := by kernel_rfl
theorem floor_holds_c29 : (Rows.fnExactFloorRatRow.pinned == Rows.fnExactFloorRatRow.pinnedBy) = true := by kernel_rfl
theorem floor_holds_c30 : (Rows.fnExactFloorRatRow.veiled == (Try.f10.params.toList ++ Rows.fnExactFloorRatSpec.plain.varTypes Try.pinned.checked.prog ++ Try.f10.resultTypes.toList).any (Try.pinned.checked.prog.veiledRec ·)) = true := by kernel_rfl
theorem floor_holds_c31 : (Rows.fnExactFloorRatRow.veiledFits Try.pinned.checked.prog Try.f10.params.toList (Try.f10.params.toList ++ Rows.fnExactFloorRatSpec.plain.varTypes Try.pinned.checked.prog ++ Try.f10.resultTypes.toList)) = true := by kernel_rfl
theorem floor_holds_and {a b : Bool} (h : a = true) (k : b = true) : (a && b) = true := by rw [h, k]; rfl
theorem floor_holds_closed : joinedFacts Try.pinned.checked.prog 10 Try.f10 Rows.fnExactFloorRatSpec Rows.fnExactFloorRatRow = true := (floor_holds_and (floor_holds_and (floor_holds_and (floor_holds_and (floor_holds_and (floor_holds_and (floor_holds_and (floor_holds_and (floor_holds_and (floor_holds_and (floor_holds_and (floor_holds_and (floor_holds_and (floor_holds_and (floor_holds_and (floor_holds_and (floor_holds_and (floor_holds_and (floor_holds_and (floor_holds_and (floor_holds_and (floor_holds_and (floor_holds_and (floor_holds_and (floor_holds_and (floor_holds_and (floor_holds_and (floor_holds_and (floor_holds_and (floor_holds_and (floor_holds_and floor_holds_c0 floor_holds_c1) floor_holds_c2) floor_holds_c3) floor_holds_c4) floor_holds_c5) floor_holds_c6) floor_holds_c7) floor_holds_c8) floor_holds_c9) floor_holds_c10) floor_holds_c11) floor_holds_c12) floor_holds_c13) floor_holds_c14) floor_holds_c15) floor_holds_c16) floor_holds_c17) floor_holds_c18) floor_holds_c19) floor_holds_c20) floor_holds_c21) floor_holds_c22) floor_holds_c23) floor_holds_c24) floor_holds_c25) floor_holds_c26) floor_holds_c27) floor_holds_c28) floor_holds_c29) floor_holds_c30) floor_holds_c31)
theorem floor_holds_named : Try.pinned.checked.prog.funcNamed Rows.fnExactFloorRatRow.func = some 10 := by kernel_rfl
theorem floor_holds_inst : Try.f10.isInstance Try.pinned.checked.prog Rows.fnExactFloorRatRow.origin Rows.fnExactFloorRatRow.targs := of_decide_eq_true (by kernel_rfl)
theorem floor_holds_wrap : Try.f10.isWrapper Try.pinned.checked.prog Rows.fnExactFloorRatRow.wrapper Rows.fnExactFloorRatRow.mainSum := by unfold Func.isWrapper; first | (rw [if_pos (by decide +kernel)]; kernel_rfl) | (rw [if_neg (by decide +kernel)]; exact ⟨rfl, rfl⟩)
theorem floor_holds : Rows.FnExactFloorRatSaid :=
  OpenClaim.holds_of_wide 10 Try.f10 rfl rfl rfl rfl rfl rfl rfl ⟨rfl, rfl, rfl, rfl, rfl⟩ rfl rfl rfl rfl rfl floor_holds_named Try.func10 floor_holds_closed floor_holds_inst floor_holds_wrap
    (fun os started H enc _ => floor_holds_lifted os started H enc)
#print axioms floor_holds
end Go.Proofs.Ytgekkmibddfakaa

/- FloorRat: the program's and the specification's, at every fraction. No condition beyond those typed. Written by mkfl.py. -/
import Derived.Test.YtfmjbpfnhgkhkaaRatF
import Derived.Test.YtfmjbpfnhgkhkaaVarB
import Derived.Test.YtfmjbpfnhgkhkaaSubI
namespace Go.Proofs.Ytfmjbpfnhgkhkaa
open Go.RowKit
set_option linter.unusedVariables false
set_option maxRecDepth 100000
set_option linter.unusedSimpArgs false

def RetB (w : World) (U : BD → Bool → Prop) (e : Ending) (w' : World) : Prop := ∃ (v : BV) (d : BD) (ok : Bool), e = .returned (.tuple #[.agg #[.bool v.g, .slice v.a v.n v.c], .bool ok]) ∧ Below w.heap.size w w' ∧ AllOwn w.heap.size w'.heap.size w' [(v, d)] ∧ U d ok
def AnsB (P : Bool) (V : Int) (d : BD) (ok : Bool) : Prop := (P = true ∧ ok = true ∧ d.g = decide (V < 0) ∧ Nm d.xs V.natAbs ∧ d.xs.length ≤ 40) ∨ (P = false ∧ ok = false ∧ d = ⟨false, []⟩)
theorem AnsB.same {P : Bool} {V : Int} {d d' : BD} {ok ok' : Bool} (h : AnsB P V d ok) (k : AnsB P V d' ok') : d = d' ∧ ok = ok' := by
  obtain ⟨g, xs⟩ := d
  obtain ⟨g', xs'⟩ := d'
  rcases h with ⟨p, o, a, b, _⟩ | ⟨p, o, e⟩ <;> rcases k with ⟨p', o', a', b', _⟩ | ⟨p', o', e'⟩
  · simp only at a b a' b'
    rw [a, a', b.same b']
    exact ⟨rfl, o.trans o'.symm⟩
  · rw [p] at p'; cases p'
  · rw [p] at p'; cases p'
  · exact ⟨e.trans e'.symm, o.trans o'.symm⟩
theorem AnsB.lens {P : Bool} {V : Int} {d : BD} {ok : Bool} (h : AnsB P V d ok) : d.xs.length ≤ 40 := by
  rcases h with ⟨_, _, _, _, h⟩ | ⟨_, _, rfl⟩
  · exact h
  · simp
theorem retB_fin {w wN W : World} {R : Nat} {v : BV} {d : BD} {ok : Bool} {U : BD → Bool → Prop} (hR : w.heap.size ≤ R) (hb : Below w.heap.size w wN) (bt : But R (R + 1) wN W) (ho : AllOwn (R + 1) wN.heap.size wN [(v, d)]) (hu : U d ok) : RetB w U (.returned (.tuple #[.agg #[.bool v.g, .slice v.a v.n v.c], .bool ok])) W :=
  ⟨v, d, ok, rfl, bt.below hb hR hb.size, (own_fin bt ho (Nat.le_refl _)).wide (by omega) bt.size, hu⟩
theorem floor_pos {N D : Int} (hD : 0 < D) (hN : ¬ N < 0) : sU false ((N.natAbs : Int) / (D.natAbs : Int)) = N / D ∧ (N.natAbs : Int) % (D.natAbs : Int) = N % D := by
  rw [show (N.natAbs : Int) = N by omega, show (D.natAbs : Int) = D by omega]
  exact ⟨rfl, rfl⟩
theorem floor_neg0 {N D : Int} (hD : 0 < D) (hN : N < 0) (hr : (N.natAbs : Int) % (D.natAbs : Int) = 0) : sU true ((N.natAbs : Int) / (D.natAbs : Int)) = N / D ∧ (N.natAbs : Int) % (D.natAbs : Int) = N % D := by
  have e1 := Int.emod_add_mul_ediv (N.natAbs : Int) (D.natAbs : Int)
  rw [hr] at e1 ⊢
  rw [show (D.natAbs : Int) = D by omega] at *
  show -((N.natAbs : Int) / D) = N / D ∧ 0 = N % D
  generalize (N.natAbs : Int) / D = k at *
  have := (Int.ediv_emod_unique (a := N) (r := 0) (q := -k) hD).2 ⟨by rw [Int.mul_neg]; omega, by omega, hD⟩
  exact ⟨this.1.symm, this.2.symm⟩
theorem floor_neg {N D : Int} (hD : 0 < D) (hN : N < 0) (hr : (N.natAbs : Int) % (D.natAbs : Int) ≠ 0) : -((N.natAbs : Int) / (D.natAbs : Int) + 1) = N / D ∧ (D.natAbs : Int) - (N.natAbs : Int) % (D.natAbs : Int) = N % D := by
  have e1 := Int.emod_add_mul_ediv (N.natAbs : Int) (D.natAbs : Int)
  have e2 := Int.emod_nonneg (N.natAbs : Int) (show (D.natAbs : Int) ≠ 0 by omega)
  have e3 := Int.emod_lt_of_pos (N.natAbs : Int) (show 0 < (D.natAbs : Int) by omega)
  rw [show (D.natAbs : Int) = D by omega] at *
  generalize (N.natAbs : Int) / D = k at *
  generalize (N.natAbs : Int) % D = r at *
  have := (Int.ediv_emod_unique (a := N) (r := D - r) (q := -(k + 1)) hD).2 ⟨by rw [Int.mul_neg, Int.mul_add, Int.mul_one]; omega, by omega, by omega⟩
  exact ⟨this.1.symm, this.2.symm⟩
theorem floor_abs {N D : Int} (hD : 0 < D) : (N / D).natAbs ≤ N.natAbs ∧ 0 ≤ N % D ∧ N % D < D := by
  have e1 := Int.emod_add_mul_ediv N D
  have e2 := Int.emod_nonneg N (show D ≠ 0 by omega)
  have e3 := Int.emod_lt_of_pos N hD
  refine ⟨?_, e2, e3⟩
  by_cases h : 0 ≤ N
  · have h1 : 0 ≤ N / D := Int.ediv_nonneg h (by omega)
    have h2 : N / D ≤ N := Int.ediv_le_self _ h
    omega
  · have h1 : N / D < 0 := Int.ediv_neg_of_neg_of_pos (by omega) hD
    have h2 : N ≤ N / D := by
      have m := Int.mul_le_mul_of_nonneg_left (show 1 ≤ D by omega) (show 0 ≤ -(N / D + 1) by omega)
      have e4 : -(N / D + 1) * D = -(D * (N / D)) - D := by rw [Int.neg_mul, Int.add_mul, Int.one_mul, Int.mul_comm (N / D) D]; omega
      rw [Int.mul_one, e4] at m
      omega
    omega
/-- A call answers floor and rest. -/
def OutFR (w : World) (N D : Int) (e : Ending) (w' : World) : Prop := ∃ x y : BV, e = .returned (.tuple #[.agg #[.bool x.g, .slice x.a x.n x.c], .agg #[.bool y.g, .slice y.a y.n y.c]]) ∧ Below w.heap.size w w' ∧ Ow w.heap.size w'.heap.size w' x (N / D) ∧ Ow w.heap.size w'.heap.size w' y (N % D)

set_option maxHeartbeats 4000000 in
theorem floorFR (q : QV) (N D : Int) (w : World) (h : IsQ w q N D) (hD : 0 < D) (k1 : Bd N 400000) (k2 : Bd D 400000) : Calls Try.prog 208 #[.agg #[.bool q.num.g, .slice q.num.a q.num.n q.num.c, .bool q.den.g, .slice q.den.a q.den.n q.den.c]] w (OutFR w N D) := by
  obtain ⟨⟨g, a, n, c⟩, b⟩ := q
  obtain ⟨xs, hx, _, hl, nx, sx⟩ := h.1.num k1 (by omega)
  obtain ⟨ys, hy, _, hl', ny, sy⟩ := h.2.num k2 (by omega)
  have hm : 1 ≤ b.n := by have := h.2.zero_iff; simp only at this; omega
  simp only at hx hl sx hy hl' ⊢
  have HX := hide hx.arg
  have HY := hide hy.arg
  have KN := hide k1
  have NX := hide nx
  have NY := hide ny
  clear h hx hy nx ny sy k1 k2
  by_cases hN : N < 0
  · obtain rfl : g = true := by rw [sx]; exact decide_eq_true hN
    clear sx
    by_cases hr : (N.natAbs : Int) % (D.natAbs : Int) = 0
    · have FL := hide (floor_neg0 hD hN hr)
      have HR := hide hr
      clear hr hN
      have B0 := hide (show Below w.heap.size w (((w.alloc (.cells #[.bool true, .slice a n c, .bool b.g, .slice b.a b.n b.c] 40)).alloc (.cells #[.bool false, .slice none 0 0] 26)).alloc (.cells #[.bool false, .slice none 0 0] 26)) from ((((Below.refl _ _).alloc (by simp) _).alloc (by simp) _).alloc (by simp <;> omega) _))
      go_enter Try.func208, Try.ntmps208
      go_wp2_with fail
      refine (divI_any a b.a n b.n c b.c xs ys _ ((unhide HX).later (unhide B0)) ((unhide HY).later (unhide B0)) (unhide NX).ok (unhide NX).tr (unhide NY).ok (unhide NY).tr (by omega) (by omega) (by omega)).mono ?_
      rintro e w1 ⟨a2, n2, c2, zs, a3, n3, c3, rs, rfl, hb, ho2, ha2, hn2, ho3, ha3, hn3, ap⟩
      have s1 : w.heap.size + 3 ≤ w1.heap.size := by have := hb.size; simp at this; omega
      rw [(unhide NX).v, (unhide NY).v] at hn2 hn3
      have N2 := hide hn2
      have N3 := hide hn3
      have ln : n2 ≤ 400000 := by rw [← ha2.len]; exact Nm.len_le (V := (N.natAbs : Int) / (D.natAbs : Int)) (by rw [Int.natAbs_of_nonneg (Int.ediv_nonneg (by omega) (by omega))]; exact hn2) ((unhide KN).le (by have h1 := Int.ediv_le_self (D.natAbs : Int) (show 0 ≤ (N.natAbs : Int) by omega); have h2 := Int.ediv_nonneg (show 0 ≤ (N.natAbs : Int) by omega) (show 0 ≤ (D.natAbs : Int) by omega); omega))
      have l3 : n3 = 0 ↔ (N.natAbs : Int) % (D.natAbs : Int) = 0 := by rw [← ha3.len, List.length_eq_zero_iff]; exact hn3.nil_iff
      obtain rfl : n3 = 0 := l3.2 (unhide HR)
      clear l3
      have k0_0 : w1.cell? ⟨w.heap.size, 0, none⟩ = some (.bool true) := cell_later hb (by simp [go_sem])
      have k1_0 : w1.cell? ⟨w.heap.size + 1, 0, none⟩ = some (.bool false) := cell_later hb (by simp [go_sem])
      have k1_1 : w1.cell? ⟨w.heap.size + 1, 1, none⟩ = some (.slice none 0 0) := cell_later hb (by simp [go_sem])
      have k2_0 : w1.cell? ⟨w.heap.size + 1 + 1, 0, none⟩ = some (.bool false) := cell_later hb (by simp [go_sem])
      have k2_1 : w1.cell? ⟨w.heap.size + 1 + 1, 1, none⟩ = some (.slice none 0 0) := cell_later hb (by simp [go_sem])
      have z1 : ∀ o, w1.frozen? ⟨w.heap.size + 1, o, none⟩ = false := fun o => frozen_later hb (by simp) (by simp [go_sem])
      have z2 : ∀ o, w1.frozen? ⟨w.heap.size + 1 + 1, o, none⟩ = false := fun o => frozen_later hb (by simp) (by simp [go_sem])
      have A2 := hide (ha2)
      have A3 := hide (ha3)
      have O2 := hide (ho2.two)
      have O3 := hide (ho3.two)
      have HB := hide (below_on (unhide B0) hb)
      clear hb
      clear ho2 ha2 hn2 ho3 ha3 hn3 ap
      go_wp2_with fail
      refine (signI_v true a2 n2 c2 zs _ _ _ _ (unhide A2) (unhide O2) (unhide N2)).mono ?_
      rintro e w5 ⟨x1, rfl, hb, ow1, ar1⟩
      have s5 := hb.size
      replace z1 := fun o => frozen_later hb (World.block_lt_of_cell? _ _ k1_0) (z1 o)
      replace z2 := fun o => frozen_later hb (World.block_lt_of_cell? _ _ k2_0) (z2 o)
      replace k1_0 := cell_later hb k1_0
      replace k1_1 := cell_later hb k1_1
      replace k2_0 := cell_later hb k2_0
      replace k2_1 := cell_later hb k2_1
      clear k0_0
      replace A2 := hide ((unhide A2).later hb)
      replace A3 := hide ((unhide A3).later hb)
      replace O2 := hide ((unhide O2).later hb)
      replace O3 := hide ((unhide O3).later hb)
      have OW1 := hide (ow1)
      have AR1 := hide (ar1)
      replace HB := hide (below_on (unhide HB) hb)
      clear hb
      clear ow1 ar1
      go_wp2_with fail
      refine (signI_v false a3 0 c3 rs _ _ _ _ (unhide A3) (unhide O3) (unhide N3)).mono ?_
      rintro e w6 ⟨x2, rfl, hb, ow2, ar2⟩
      have s6 := hb.size
      replace z1 := fun o => frozen_later hb (World.block_lt_of_cell? _ _ k1_0) (z1 o)
      replace z2 := fun o => frozen_later hb (World.block_lt_of_cell? _ _ k2_0) (z2 o)
      replace k1_0 := cell_later hb k1_0
      replace k1_1 := cell_later hb k1_1
      replace k2_0 := cell_later hb k2_0
      replace k2_1 := cell_later hb k2_1
      replace A2 := hide ((unhide A2).later hb)
      replace A3 := hide ((unhide A3).later hb)
      replace O2 := hide ((unhide O2).later hb)
      replace O3 := hide ((unhide O3).later hb)
      replace OW1 := hide ((unhide OW1).later hb)
      replace AR1 := hide ((unhide AR1).later hb)
      have OW2 := hide (ow2)
      have AR2 := hide (ar2)
      replace HB := hide (below_on (unhide HB) hb)
      clear hb
      clear ow2 ar2
      have e1 : sU true ((N.natAbs : Int) / (D.natAbs : Int)) = N / D := (unhide FL).1
      have e2 : sU false ((N.natAbs : Int) % (D.natAbs : Int)) = N % D := (unhide FL).2
      have P1 : Hid (Ow (w.heap.size + 3) w6.heap.size w6 x1 (N / D)) := hide (by
        have a0 := (unhide OW1).wide (lo' := w.heap.size + 3) (hi' := w6.heap.size) (by first | omega | (simp; done) | (simp; omega)) (by omega)
        have a1 := unhide AR1
        rw [e1] at a0 a1
        exact outN_ow a0 a1 (by rw [← e1, sU_abs (unhide N2).nonneg]; exact unhide N2))
      have P2 : Hid (Ow (w.heap.size + 3) w6.heap.size w6 x2 (N % D)) := hide (by
        have a0 := (unhide OW2).wide (lo' := w.heap.size + 3) (hi' := w6.heap.size) (by first | omega | (simp; done) | (simp; omega)) (by omega)
        have a1 := unhide AR2
        rw [e2] at a0 a1
        exact outN_ow a0 a1 (by rw [← e2, sU_abs (unhide N3).nonneg]; exact unhide N3))
      clear e1 e2 OW1 OW2 AR1 AR2
      go_wp2
      refine bodyPost_ret (v := .tuple #[.agg #[.bool x1.g, .slice x1.a x1.n x1.c], .agg #[.bool x2.g, .slice x2.a x2.n x2.c]]) (by simp [results, Try.results208, go_sem, k1_0, k1_1, k2_0, k2_1]) rfl ?_
      have bt1 := metB_but (w5 := w6) (v := x1) (G := w.heap.size + 1)
      have bt2 := metB_but (w5 := (w6.setCell ⟨w.heap.size + 1, 0, none⟩ (.bool x1.g)).setCell ⟨w.heap.size + 1, 1, none⟩ (.slice x1.a x1.n x1.c)) (v := x2) (G := w.heap.size + 1 + 1)
      exact ⟨x1, x2, rfl, bt2.below (bt1.below (unhide HB) (by omega) (unhide HB).size) (by omega) (by have := bt1.size; have := (unhide HB).size; omega), (((unhide P1).but bt1 (.inr (by omega))).but bt2 (.inr (by omega))).wide (by omega) (by have := bt1.size; have := bt2.size; omega), (((unhide P2).but bt1 (.inr (by omega))).but bt2 (.inr (by omega))).wide (by omega) (by have := bt1.size; have := bt2.size; omega)⟩
    · have FL := hide (floor_neg hD hN hr)
      have HR := hide hr
      clear hr hN
      have B0 := hide (show Below w.heap.size w (((w.alloc (.cells #[.bool true, .slice a n c, .bool b.g, .slice b.a b.n b.c] 40)).alloc (.cells #[.bool false, .slice none 0 0] 26)).alloc (.cells #[.bool false, .slice none 0 0] 26)) from ((((Below.refl _ _).alloc (by simp) _).alloc (by simp) _).alloc (by simp <;> omega) _))
      go_enter Try.func208, Try.ntmps208
      go_wp2_with fail
      refine (divI_any a b.a n b.n c b.c xs ys _ ((unhide HX).later (unhide B0)) ((unhide HY).later (unhide B0)) (unhide NX).ok (unhide NX).tr (unhide NY).ok (unhide NY).tr (by omega) (by omega) (by omega)).mono ?_
      rintro e w1 ⟨a2, n2, c2, zs, a3, n3, c3, rs, rfl, hb, ho2, ha2, hn2, ho3, ha3, hn3, ap⟩
      have s1 : w.heap.size + 3 ≤ w1.heap.size := by have := hb.size; simp at this; omega
      rw [(unhide NX).v, (unhide NY).v] at hn2 hn3
      have N2 := hide hn2
      have N3 := hide hn3
      have ln : n2 ≤ 400000 := by rw [← ha2.len]; exact Nm.len_le (V := (N.natAbs : Int) / (D.natAbs : Int)) (by rw [Int.natAbs_of_nonneg (Int.ediv_nonneg (by omega) (by omega))]; exact hn2) ((unhide KN).le (by have h1 := Int.ediv_le_self (D.natAbs : Int) (show 0 ≤ (N.natAbs : Int) by omega); have h2 := Int.ediv_nonneg (show 0 ≤ (N.natAbs : Int) by omega) (show 0 ≤ (D.natAbs : Int) by omega); omega))
      have l3 : n3 = 0 ↔ (N.natAbs : Int) % (D.natAbs : Int) = 0 := by rw [← ha3.len, List.length_eq_zero_iff]; exact hn3.nil_iff
      have p3 : 0 < n3 := by have := unhide HR; omega
      have p3x : decide ((0 : Int) < (n3 : Int)) = true := by simp; omega
      have r3 : n3 ≤ b.n := by rw [← ha3.len]; exact hn3.le (unhide NY).ok (unhide HY).len (by rw [(unhide NY).v]; exact Int.le_of_lt (Int.emod_lt_of_pos _ (by omega)))
      clear l3
      have k0_0 : w1.cell? ⟨w.heap.size, 0, none⟩ = some (.bool true) := cell_later hb (by simp [go_sem])
      have k0_3 : w1.cell? ⟨w.heap.size, 3, none⟩ = some (.slice b.a b.n b.c) := cell_later hb (by simp [go_sem])
      have k1_0 : w1.cell? ⟨w.heap.size + 1, 0, none⟩ = some (.bool false) := cell_later hb (by simp [go_sem])
      have k1_1 : w1.cell? ⟨w.heap.size + 1, 1, none⟩ = some (.slice none 0 0) := cell_later hb (by simp [go_sem])
      have k2_0 : w1.cell? ⟨w.heap.size + 1 + 1, 0, none⟩ = some (.bool false) := cell_later hb (by simp [go_sem])
      have k2_1 : w1.cell? ⟨w.heap.size + 1 + 1, 1, none⟩ = some (.slice none 0 0) := cell_later hb (by simp [go_sem])
      have z1 : ∀ o, w1.frozen? ⟨w.heap.size + 1, o, none⟩ = false := fun o => frozen_later hb (by simp) (by simp [go_sem])
      have z2 : ∀ o, w1.frozen? ⟨w.heap.size + 1 + 1, o, none⟩ = false := fun o => frozen_later hb (by simp) (by simp [go_sem])
      have A2 := hide (ha2)
      have A3 := hide (ha3)
      have O2 := hide (ho2.two)
      have O3 := hide (ho3.two)
      have HB := hide (below_on (unhide B0) hb)
      clear hb
      clear ho2 ha2 hn2 ho3 ha3 hn3 ap
      have k0_0u : (w1.alloc (.cells #[.int .i64 1] 3)).cell? ⟨w.heap.size, 0, none⟩ = some (.bool true) := (ca_other k0_0)
      have k0_3u : (w1.alloc (.cells #[.int .i64 1] 3)).cell? ⟨w.heap.size, 3, none⟩ = some (.slice b.a b.n b.c) := (ca_other k0_3)
      have k1_0u : (w1.alloc (.cells #[.int .i64 1] 3)).cell? ⟨w.heap.size + 1, 0, none⟩ = some (.bool false) := (ca_other k1_0)
      have k1_1u : (w1.alloc (.cells #[.int .i64 1] 3)).cell? ⟨w.heap.size + 1, 1, none⟩ = some (.slice none 0 0) := (ca_other k1_1)
      have k2_0u : (w1.alloc (.cells #[.int .i64 1] 3)).cell? ⟨w.heap.size + 1 + 1, 0, none⟩ = some (.bool false) := (ca_other k2_0)
      have k2_1u : (w1.alloc (.cells #[.int .i64 1] 3)).cell? ⟨w.heap.size + 1 + 1, 1, none⟩ = some (.slice none 0 0) := (ca_other k2_1)
      go_wp2_with fail
      refine (addI_any a2 _ n2 1 c2 1 zs [1] _ ((unhide A2).later ((Below.refl _ _).alloc (by simp) _)) (one_arg w1 1).1 (unhide N2).ok nm_one.ok (by omega) (by omega)).mono ?_
      rintro e w2 ⟨a4, n4, c4, ws, rfl, hb, ho4, ha4, hn4⟩
      clear k0_0u k0_3u k1_0u k1_1u k2_0u k2_1u
      rw [(unhide N2).v, nm_one.v] at hn4
      have N4 := hide hn4
      have s2 : w1.heap.size + 1 ≤ w2.heap.size := by have := hb.size; simp at this; omega
      have hbx := ba (hb)
      replace z1 := fun o => frozen_later hbx (World.block_lt_of_cell? _ _ k1_0) (z1 o)
      replace z2 := fun o => frozen_later hbx (World.block_lt_of_cell? _ _ k2_0) (z2 o)
      replace k0_0 := cell_later hbx k0_0
      replace k0_3 := cell_later hbx k0_3
      replace k1_0 := cell_later hbx k1_0
      replace k1_1 := cell_later hbx k1_1
      replace k2_0 := cell_later hbx k2_0
      replace k2_1 := cell_later hbx k2_1
      replace A2 := hide ((unhide A2).later hbx)
      replace A3 := hide ((unhide A3).later hbx)
      replace O2 := hide ((unhide O2).later hbx)
      replace O3 := hide ((unhide O3).later hbx)
      have A4 := hide (ha4)
      have O4 := hide (ho4.two)
      replace HB := hide (below_on (unhide HB) hbx)
      clear hbx hb
      clear ho4 ha4 hn4
      go_wp2_with fail
      refine (subI_any b.a a3 b.n n3 b.c c3 ys rs _ ((unhide HY).later (unhide HB)) (unhide A3) (unhide NY).ok (unhide N3).ok (by omega) r3 (by rw [(unhide N3).v, (unhide NY).v]; exact Int.le_of_lt (Int.emod_lt_of_pos _ (by omega)))).mono ?_
      rintro e w3 ⟨a5, n5, c5, ts, rfl, hb, ho5, ha5, hn5⟩
      rw [(unhide N3).v, (unhide NY).v] at hn5
      have N5 := hide hn5
      have s3 := hb.size
      replace z1 := fun o => frozen_later hb (World.block_lt_of_cell? _ _ k1_0) (z1 o)
      replace z2 := fun o => frozen_later hb (World.block_lt_of_cell? _ _ k2_0) (z2 o)
      replace k0_0 := cell_later hb k0_0
      replace k1_0 := cell_later hb k1_0
      replace k1_1 := cell_later hb k1_1
      replace k2_0 := cell_later hb k2_0
      replace k2_1 := cell_later hb k2_1
      clear k0_3
      replace A2 := hide ((unhide A2).later hb)
      replace A3 := hide ((unhide A3).later hb)
      replace O2 := hide ((unhide O2).later hb)
      replace O3 := hide ((unhide O3).later hb)
      replace A4 := hide ((unhide A4).later hb)
      replace O4 := hide ((unhide O4).later hb)
      have A5 := hide (ha5)
      have O5 := hide (ho5.two)
      replace HB := hide (below_on (unhide HB) hb)
      clear hb
      clear ho5 ha5 hn5
      clear A2 A3 O2 O3
      go_wp2_with fail
      refine (signI_v true a4 n4 c4 ws _ _ _ _ (unhide A4) (unhide O4) (unhide N4)).mono ?_
      rintro e w5 ⟨x1, rfl, hb, ow1, ar1⟩
      have s5 := hb.size
      replace z1 := fun o => frozen_later hb (World.block_lt_of_cell? _ _ k1_0) (z1 o)
      replace z2 := fun o => frozen_later hb (World.block_lt_of_cell? _ _ k2_0) (z2 o)
      replace k1_0 := cell_later hb k1_0
      replace k1_1 := cell_later hb k1_1
      replace k2_0 := cell_later hb k2_0
      replace k2_1 := cell_later hb k2_1
      clear k0_0
      replace A4 := hide ((unhide A4).later hb)
      replace O4 := hide ((unhide O4).later hb)
      replace A5 := hide ((unhide A5).later hb)
      replace O5 := hide ((unhide O5).later hb)
      have OW1 := hide (ow1)
      have AR1 := hide (ar1)
      replace HB := hide (below_on (unhide HB) hb)
      clear hb
      clear ow1 ar1
      go_wp2_with fail
      refine (signI_v false a5 n5 c5 ts _ _ _ _ (unhide A5) (unhide O5) (unhide N5)).mono ?_
      rintro e w6 ⟨x2, rfl, hb, ow2, ar2⟩
      have s6 := hb.size
      replace z1 := fun o => frozen_later hb (World.block_lt_of_cell? _ _ k1_0) (z1 o)
      replace z2 := fun o => frozen_later hb (World.block_lt_of_cell? _ _ k2_0) (z2 o)
      replace k1_0 := cell_later hb k1_0
      replace k1_1 := cell_later hb k1_1
      replace k2_0 := cell_later hb k2_0
      replace k2_1 := cell_later hb k2_1
      replace A4 := hide ((unhide A4).later hb)
      replace O4 := hide ((unhide O4).later hb)
      replace A5 := hide ((unhide A5).later hb)
      replace O5 := hide ((unhide O5).later hb)
      replace OW1 := hide ((unhide OW1).later hb)
      replace AR1 := hide ((unhide AR1).later hb)
      have OW2 := hide (ow2)
      have AR2 := hide (ar2)
      replace HB := hide (below_on (unhide HB) hb)
      clear hb
      clear ow2 ar2
      have e1 : sU true ((N.natAbs : Int) / (D.natAbs : Int) + 1) = N / D := (unhide FL).1
      have e2 : sU false ((D.natAbs : Int) - (N.natAbs : Int) % (D.natAbs : Int)) = N % D := (unhide FL).2
      have P1 : Hid (Ow (w.heap.size + 3) w6.heap.size w6 x1 (N / D)) := hide (by
        have a0 := (unhide OW1).wide (lo' := w.heap.size + 3) (hi' := w6.heap.size) (by first | omega | (simp; done) | (simp; omega)) (by omega)
        have a1 := unhide AR1
        rw [e1] at a0 a1
        exact outN_ow a0 a1 (by rw [← e1, sU_abs (unhide N4).nonneg]; exact unhide N4))
      have P2 : Hid (Ow (w.heap.size + 3) w6.heap.size w6 x2 (N % D)) := hide (by
        have a0 := (unhide OW2).wide (lo' := w.heap.size + 3) (hi' := w6.heap.size) (by first | omega | (simp; done) | (simp; omega)) (by omega)
        have a1 := unhide AR2
        rw [e2] at a0 a1
        exact outN_ow a0 a1 (by rw [← e2, sU_abs (unhide N5).nonneg]; exact unhide N5))
      clear e1 e2 OW1 OW2 AR1 AR2
      go_wp2
      refine bodyPost_ret (v := .tuple #[.agg #[.bool x1.g, .slice x1.a x1.n x1.c], .agg #[.bool x2.g, .slice x2.a x2.n x2.c]]) (by simp [results, Try.results208, go_sem, k1_0, k1_1, k2_0, k2_1]) rfl ?_
      have bt1 := metB_but (w5 := w6) (v := x1) (G := w.heap.size + 1)
      have bt2 := metB_but (w5 := (w6.setCell ⟨w.heap.size + 1, 0, none⟩ (.bool x1.g)).setCell ⟨w.heap.size + 1, 1, none⟩ (.slice x1.a x1.n x1.c)) (v := x2) (G := w.heap.size + 1 + 1)
      exact ⟨x1, x2, rfl, bt2.below (bt1.below (unhide HB) (by omega) (unhide HB).size) (by omega) (by have := bt1.size; have := (unhide HB).size; omega), (((unhide P1).but bt1 (.inr (by omega))).but bt2 (.inr (by omega))).wide (by omega) (by have := bt1.size; have := bt2.size; omega), (((unhide P2).but bt1 (.inr (by omega))).but bt2 (.inr (by omega))).wide (by omega) (by have := bt1.size; have := bt2.size; omega)⟩
  · obtain rfl : g = false := by rw [sx]; exact decide_eq_false hN
    clear sx
    have hr := True.intro
    have FL := hide (floor_pos hD hN)
    have HR := hide hr
    clear hr hN
    have B0 := hide (show Below w.heap.size w (((w.alloc (.cells #[.bool false, .slice a n c, .bool b.g, .slice b.a b.n b.c] 40)).alloc (.cells #[.bool false, .slice none 0 0] 26)).alloc (.cells #[.bool false, .slice none 0 0] 26)) from ((((Below.refl _ _).alloc (by simp) _).alloc (by simp) _).alloc (by simp <;> omega) _))
    go_enter Try.func208, Try.ntmps208
    go_wp2_with fail
    refine (divI_any a b.a n b.n c b.c xs ys _ ((unhide HX).later (unhide B0)) ((unhide HY).later (unhide B0)) (unhide NX).ok (unhide NX).tr (unhide NY).ok (unhide NY).tr (by omega) (by omega) (by omega)).mono ?_
    rintro e w1 ⟨a2, n2, c2, zs, a3, n3, c3, rs, rfl, hb, ho2, ha2, hn2, ho3, ha3, hn3, ap⟩
    have s1 : w.heap.size + 3 ≤ w1.heap.size := by have := hb.size; simp at this; omega
    rw [(unhide NX).v, (unhide NY).v] at hn2 hn3
    have N2 := hide hn2
    have N3 := hide hn3
    have ln : n2 ≤ 400000 := by rw [← ha2.len]; exact Nm.len_le (V := (N.natAbs : Int) / (D.natAbs : Int)) (by rw [Int.natAbs_of_nonneg (Int.ediv_nonneg (by omega) (by omega))]; exact hn2) ((unhide KN).le (by have h1 := Int.ediv_le_self (D.natAbs : Int) (show 0 ≤ (N.natAbs : Int) by omega); have h2 := Int.ediv_nonneg (show 0 ≤ (N.natAbs : Int) by omega) (show 0 ≤ (D.natAbs : Int) by omega); omega))
    have l3 : n3 = 0 ↔ (N.natAbs : Int) % (D.natAbs : Int) = 0 := by rw [← ha3.len, List.length_eq_zero_iff]; exact hn3.nil_iff

    clear l3
    have k0_0 : w1.cell? ⟨w.heap.size, 0, none⟩ = some (.bool false) := cell_later hb (by simp [go_sem])
    have k1_0 : w1.cell? ⟨w.heap.size + 1, 0, none⟩ = some (.bool false) := cell_later hb (by simp [go_sem])
    have k1_1 : w1.cell? ⟨w.heap.size + 1, 1, none⟩ = some (.slice none 0 0) := cell_later hb (by simp [go_sem])
    have k2_0 : w1.cell? ⟨w.heap.size + 1 + 1, 0, none⟩ = some (.bool false) := cell_later hb (by simp [go_sem])
    have k2_1 : w1.cell? ⟨w.heap.size + 1 + 1, 1, none⟩ = some (.slice none 0 0) := cell_later hb (by simp [go_sem])
    have z1 : ∀ o, w1.frozen? ⟨w.heap.size + 1, o, none⟩ = false := fun o => frozen_later hb (by simp) (by simp [go_sem])
    have z2 : ∀ o, w1.frozen? ⟨w.heap.size + 1 + 1, o, none⟩ = false := fun o => frozen_later hb (by simp) (by simp [go_sem])
    have A2 := hide (ha2)
    have A3 := hide (ha3)
    have O2 := hide (ho2.two)
    have O3 := hide (ho3.two)
    have HB := hide (below_on (unhide B0) hb)
    clear hb
    clear ho2 ha2 hn2 ho3 ha3 hn3 ap
    go_wp2_with fail
    refine (signI_v false a2 n2 c2 zs _ _ _ _ (unhide A2) (unhide O2) (unhide N2)).mono ?_
    rintro e w5 ⟨x1, rfl, hb, ow1, ar1⟩
    have s5 := hb.size
    replace z1 := fun o => frozen_later hb (World.block_lt_of_cell? _ _ k1_0) (z1 o)
    replace z2 := fun o => frozen_later hb (World.block_lt_of_cell? _ _ k2_0) (z2 o)
    replace k1_0 := cell_later hb k1_0
    replace k1_1 := cell_later hb k1_1
    replace k2_0 := cell_later hb k2_0
    replace k2_1 := cell_later hb k2_1
    clear k0_0
    replace A2 := hide ((unhide A2).later hb)
    replace A3 := hide ((unhide A3).later hb)
    replace O2 := hide ((unhide O2).later hb)
    replace O3 := hide ((unhide O3).later hb)
    have OW1 := hide (ow1)
    have AR1 := hide (ar1)
    replace HB := hide (below_on (unhide HB) hb)
    clear hb
    clear ow1 ar1
    go_wp2_with fail
    refine (signI_v false a3 n3 c3 rs _ _ _ _ (unhide A3) (unhide O3) (unhide N3)).mono ?_
    rintro e w6 ⟨x2, rfl, hb, ow2, ar2⟩
    have s6 := hb.size
    replace z1 := fun o => frozen_later hb (World.block_lt_of_cell? _ _ k1_0) (z1 o)
    replace z2 := fun o => frozen_later hb (World.block_lt_of_cell? _ _ k2_0) (z2 o)
    replace k1_0 := cell_later hb k1_0
    replace k1_1 := cell_later hb k1_1
    replace k2_0 := cell_later hb k2_0
    replace k2_1 := cell_later hb k2_1
    replace A2 := hide ((unhide A2).later hb)
    replace A3 := hide ((unhide A3).later hb)
    replace O2 := hide ((unhide O2).later hb)
    replace O3 := hide ((unhide O3).later hb)
    replace OW1 := hide ((unhide OW1).later hb)
    replace AR1 := hide ((unhide AR1).later hb)
    have OW2 := hide (ow2)
    have AR2 := hide (ar2)
    replace HB := hide (below_on (unhide HB) hb)
    clear hb
    clear ow2 ar2
    have e1 : sU false ((N.natAbs : Int) / (D.natAbs : Int)) = N / D := (unhide FL).1
    have e2 : sU false ((N.natAbs : Int) % (D.natAbs : Int)) = N % D := (unhide FL).2
    have P1 : Hid (Ow (w.heap.size + 3) w6.heap.size w6 x1 (N / D)) := hide (by
      have a0 := (unhide OW1).wide (lo' := w.heap.size + 3) (hi' := w6.heap.size) (by first | omega | (simp; done) | (simp; omega)) (by omega)
      have a1 := unhide AR1
      rw [e1] at a0 a1
      exact outN_ow a0 a1 (by rw [← e1, sU_abs (unhide N2).nonneg]; exact unhide N2))
    have P2 : Hid (Ow (w.heap.size + 3) w6.heap.size w6 x2 (N % D)) := hide (by
      have a0 := (unhide OW2).wide (lo' := w.heap.size + 3) (hi' := w6.heap.size) (by first | omega | (simp; done) | (simp; omega)) (by omega)
      have a1 := unhide AR2
      rw [e2] at a0 a1
      exact outN_ow a0 a1 (by rw [← e2, sU_abs (unhide N3).nonneg]; exact unhide N3))
    clear e1 e2 OW1 OW2 AR1 AR2
    go_wp2
    refine bodyPost_ret (v := .tuple #[.agg #[.bool x1.g, .slice x1.a x1.n x1.c], .agg #[.bool x2.g, .slice x2.a x2.n x2.c]]) (by simp [results, Try.results208, go_sem, k1_0, k1_1, k2_0, k2_1]) rfl ?_
    have bt1 := metB_but (w5 := w6) (v := x1) (G := w.heap.size + 1)
    have bt2 := metB_but (w5 := (w6.setCell ⟨w.heap.size + 1, 0, none⟩ (.bool x1.g)).setCell ⟨w.heap.size + 1, 1, none⟩ (.slice x1.a x1.n x1.c)) (v := x2) (G := w.heap.size + 1 + 1)
    exact ⟨x1, x2, rfl, bt2.below (bt1.below (unhide HB) (by omega) (unhide HB).size) (by omega) (by have := bt1.size; have := (unhide HB).size; omega), (((unhide P1).but bt1 (.inr (by omega))).but bt2 (.inr (by omega))).wide (by omega) (by have := bt1.size; have := bt2.size; omega), (((unhide P2).but bt1 (.inr (by omega))).but bt2 (.inr (by omega))).wide (by omega) (by have := bt1.size; have := bt2.size; omega)⟩
end Go.Proofs.Ytfmjbpfnhgkhkaa

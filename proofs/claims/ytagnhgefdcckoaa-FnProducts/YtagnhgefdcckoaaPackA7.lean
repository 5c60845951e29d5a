/- Parts of limbs and limbs shifted: the program's partsOf and shiftLimbs. No condition beyond those typed. -/
import Derived.Test.YtagnhgefdcckoaaRatF
import Derived.Test.YtagnhgefdcckoaaVarB
import Derived.Test.YtagnhgefdcckoaaSubI
import Derived.Test.YtagnhgefdcckoaaVarQ
import Derived.Test.YtagnhgefdcckoaaDivJ
import Derived.Test.YtagnhgefdcckoaaCmp
import Derived.Test.YtagnhgefdcckoaaSgs
import Derived.Test.YtagnhgefdcckoaaMulSg
import Derived.Test.YtagnhgefdcckoaaLaw2
import Derived.Test.YtagnhgefdcckoaaBigOfI
import Derived.Test.YtagnhgefdcckoaaDrop
namespace Go.Proofs.Ytagnhgefdcckoaa
open Go.RowKit
set_option linter.unusedVariables false
set_option maxRecDepth 100000
set_option linter.unusedSimpArgs false

def RetB (w : World) (U : BD → Bool → Prop) (e : Ending) (w' : World) : Prop := ∃ (v : BV) (d : BD) (ok : Bool), e = .returned (.tuple #[.agg #[.bool v.g, .slice v.a v.n v.c], .bool ok]) ∧ Below w.heap.size w w' ∧ AllOwn w.heap.size w'.heap.size w' [(v, d)] ∧ U d ok
def AnsB (P : Bool) (V : Int) (d : BD) (ok : Bool) : Prop := (P = true ∧ ok = true ∧ d.g = decide (V < 0) ∧ Nm d.xs V.natAbs ∧ d.xs.length ≤ 40) ∨ (P = false ∧ ok = false ∧ d = ⟨false, []⟩)
theorem AnsB.same {P : Bool} {V : Int} {d d' : BD} {ok ok' : Bool} (h : AnsB P V d ok) (k : AnsB P V d' ok') : d = d' ∧ ok = ok' := by
  obtain ⟨g, xs⟩ := d
  obtain ⟨g', xs'⟩ := d'
  rcases h with ⟨p, o, a, b, _⟩ | ⟨p, o, e⟩ <;> rcases k with ⟨p', o', a', b', _⟩ | ⟨p', o', e'⟩
  · simp only at a b a' b'
    rw [a, a', b.same b']
    exact ⟨rfl, o.trans o'.symm⟩
  · rw [p] at p'; cases p'
  · rw [p] at p'; cases p'
  · exact ⟨e.trans e'.symm, o.trans o'.symm⟩
theorem AnsB.lens {P : Bool} {V : Int} {d : BD} {ok : Bool} (h : AnsB P V d ok) : d.xs.length ≤ 40 := by
  rcases h with ⟨_, _, _, _, h⟩ | ⟨_, _, rfl⟩
  · exact h
  · simp
theorem retB_fin {w wN W : World} {R : Nat} {v : BV} {d : BD} {ok : Bool} {U : BD → Bool → Prop} (hR : w.heap.size ≤ R) (hb : Below w.heap.size w wN) (bt : But R (R + 1) wN W) (ho : AllOwn (R + 1) wN.heap.size wN [(v, d)]) (hu : U d ok) : RetB w U (.returned (.tuple #[.agg #[.bool v.g, .slice v.a v.n v.c], .bool ok])) W :=
  ⟨v, d, ok, rfl, bt.below hb hR hb.size, (own_fin bt ho (Nat.le_refl _)).wide (by omega) bt.size, hu⟩
theorem floor_pos {N D : Int} (hD : 0 < D) (hN : ¬ N < 0) : sU false ((N.natAbs : Int) / (D.natAbs : Int)) = N / D ∧ (N.natAbs : Int) % (D.natAbs : Int) = N % D := by
  rw [show (N.natAbs : Int) = N by omega, show (D.natAbs : Int) = D by omega]
  exact ⟨rfl, rfl⟩
theorem floor_neg0 {N D : Int} (hD : 0 < D) (hN : N < 0) (hr : (N.natAbs : Int) % (D.natAbs : Int) = 0) : sU true ((N.natAbs : Int) / (D.natAbs : Int)) = N / D ∧ (N.natAbs : Int) % (D.natAbs : Int) = N % D := by
  have e1 := Int.emod_add_mul_ediv (N.natAbs : Int) (D.natAbs : Int)
  rw [hr] at e1 ⊢
  rw [show (D.natAbs : Int) = D by omega] at *
  show -((N.natAbs : Int) / D) = N / D ∧ 0 = N % D
  generalize (N.natAbs : Int) / D = k at *
  have := (Int.ediv_emod_unique (a := N) (r := 0) (q := -k) hD).2 ⟨by rw [Int.mul_neg]; omega, by omega, hD⟩
  exact ⟨this.1.symm, this.2.symm⟩
theorem floor_neg {N D : Int} (hD : 0 < D) (hN : N < 0) (hr : (N.natAbs : Int) % (D.natAbs : Int) ≠ 0) : -((N.natAbs : Int) / (D.natAbs : Int) + 1) = N / D ∧ (D.natAbs : Int) - (N.natAbs : Int) % (D.natAbs : Int) = N % D := by
  have e1 := Int.emod_add_mul_ediv (N.natAbs : Int) (D.natAbs : Int)
  have e2 := Int.emod_nonneg (N.natAbs : Int) (show (D.natAbs : Int) ≠ 0 by omega)
  have e3 := Int.emod_lt_of_pos (N.natAbs : Int) (show 0 < (D.natAbs : Int) by omega)
  rw [show (D.natAbs : Int) = D by omega] at *
  generalize (N.natAbs : Int) / D = k at *
  generalize (N.natAbs : Int) % D = r at *
  have := (Int.ediv_emod_unique (a := N) (r := D - r) (q := -(k + 1)) hD).2 ⟨by rw [Int.mul_neg, Int.mul_add, Int.mul_one]; omega, by omega, by omega⟩
  exact ⟨this.1.symm, this.2.symm⟩
theorem floor_abs {N D : Int} (hD : 0 < D) : (N / D).natAbs ≤ N.natAbs ∧ 0 ≤ N % D ∧ N % D < D := by
  have e1 := Int.emod_add_mul_ediv N D
  have e2 := Int.emod_nonneg N (show D ≠ 0 by omega)
  have e3 := Int.emod_lt_of_pos N hD
  refine ⟨?_, e2, e3⟩
  by_cases h : 0 ≤ N
  · have h1 : 0 ≤ N / D := Int.ediv_nonneg h (by omega)
    have h2 : N / D ≤ N := Int.ediv_le_self _ h
    omega
  · have h1 : N / D < 0 := Int.ediv_neg_of_neg_of_pos (by omega) hD
    have h2 : N ≤ N / D := by
      have m := Int.mul_le_mul_of_nonneg_left (show 1 ≤ D by omega) (show 0 ≤ -(N / D + 1) by omega)
      have e4 : -(N / D + 1) * D = -(D * (N / D)) - D := by rw [Int.neg_mul, Int.add_mul, Int.one_mul, Int.mul_comm (N / D) D]; omega
      rw [Int.mul_one, e4] at m
      omega
    omega
/-- A call answers floor and rest. -/
def OutFR (w : World) (N D : Int) (e : Ending) (w' : World) : Prop := ∃ x y : BV, e = .returned (.tuple #[.agg #[.bool x.g, .slice x.a x.n x.c], .agg #[.bool y.g, .slice y.a y.n y.c]]) ∧ Below w.heap.size w w' ∧ Ow w.heap.size w'.heap.size w' x (N / D) ∧ Ow w.heap.size w'.heap.size w' y (N % D)

set_option maxHeartbeats 4000000 in
theorem floorFR (q : QV) (N D : Int) (w : World) (h : IsQ w q N D) (hD : 0 < D) (k1 : Bd N 400000) (k2 : Bd D 400000) : Calls Try.prog 153 #[.agg #[.bool q.num.g, .slice q.num.a q.num.n q.num.c, .bool q.den.g, .slice q.den.a q.den.n q.den.c]] w (OutFR w N D) := by
  obtain ⟨⟨g, a, n, c⟩, b⟩ := q
  obtain ⟨xs, hx, _, hl, nx, sx⟩ := h.1.num k1 (by omega)
  obtain ⟨ys, hy, _, hl', ny, sy⟩ := h.2.num k2 (by omega)
  have hm : 1 ≤ b.n := by have := h.2.zero_iff; simp only at this; omega
  simp only at hx hl sx hy hl' ⊢
  have HX := hide hx.arg
  have HY := hide hy.arg
  have KN := hide k1
  have NX := hide nx
  have NY := hide ny
  clear h hx hy nx ny sy k1 k2
  by_cases hN : N < 0
  · obtain rfl : g = true := by rw [sx]; exact decide_eq_true hN
    clear sx
    by_cases hr : (N.natAbs : Int) % (D.natAbs : Int) = 0
    · have FL := hide (floor_neg0 hD hN hr)
      have HR := hide hr
      clear hr hN
      have B0 := hide (show Below w.heap.size w (((w.alloc (.cells #[.bool true, .slice a n c, .bool b.g, .slice b.a b.n b.c] 50)).alloc (.cells #[.bool false, .slice none 0 0] 25)).alloc (.cells #[.bool false, .slice none 0 0] 25)) from ((((Below.refl _ _).alloc (by simp) _).alloc (by simp) _).alloc (by simp <;> omega) _))
      go_enter Try.func153, Try.ntmps153
      go_wp2_with fail
      refine (divI_any a b.a n b.n c b.c xs ys _ ((unhide HX).later (unhide B0)) ((unhide HY).later (unhide B0)) (unhide NX).ok (unhide NX).tr (unhide NY).ok (unhide NY).tr (by omega) (by omega) (by omega)).mono ?_
      rintro e w1 ⟨a2, n2, c2, zs, a3, n3, c3, rs, rfl, hb, ho2, ha2, hn2, ho3, ha3, hn3, ap⟩
      have s1 : w.heap.size + 3 ≤ w1.heap.size := by have := hb.size; simp at this; omega
      rw [(unhide NX).v, (unhide NY).v] at hn2 hn3
      have N2 := hide hn2
      have N3 := hide hn3
      have ln : n2 ≤ 400000 := by rw [← ha2.len]; exact Nm.len_le (V := (N.natAbs : Int) / (D.natAbs : Int)) (by rw [Int.natAbs_of_nonneg (Int.ediv_nonneg (by omega) (by omega))]; exact hn2) ((unhide KN).le (by have h1 := Int.ediv_le_self (D.natAbs : Int) (show 0 ≤ (N.natAbs : Int) by omega); have h2 := Int.ediv_nonneg (show 0 ≤ (N.natAbs : Int) by omega) (show 0 ≤ (D.natAbs : Int) by omega); omega))
      have l3 : n3 = 0 ↔ (N.natAbs : Int) % (D.natAbs : Int) = 0 := by rw [← ha3.len, List.length_eq_zero_iff]; exact hn3.nil_iff
      obtain rfl : n3 = 0 := l3.2 (unhide HR)
      clear l3
      have k0_0 : w1.cell? ⟨w.heap.size, 0, none⟩ = some (.bool true) := cell_later hb (by simp [go_sem])
      have k1_0 : w1.cell? ⟨w.heap.size + 1, 0, none⟩ = some (.bool false) := cell_later hb (by simp [go_sem])
      have k1_1 : w1.cell? ⟨w.heap.size + 1, 1, none⟩ = some (.slice none 0 0) := cell_later hb (by simp [go_sem])
      have k2_0 : w1.cell? ⟨w.heap.size + 1 + 1, 0, none⟩ = some (.bool false) := cell_later hb (by simp [go_sem])
      have k2_1 : w1.cell? ⟨w.heap.size + 1 + 1, 1, none⟩ = some (.slice none 0 0) := cell_later hb (by simp [go_sem])
      have z1 : ∀ o, w1.frozen? ⟨w.heap.size + 1, o, none⟩ = false := fun o => frozen_later hb (by simp) (by simp [go_sem])
      have z2 : ∀ o, w1.frozen? ⟨w.heap.size + 1 + 1, o, none⟩ = false := fun o => frozen_later hb (by simp) (by simp [go_sem])
      have A2 := hide (ha2)
      have A3 := hide (ha3)
      have O2 := hide (ho2.two)
      have O3 := hide (ho3.two)
      have HB := hide (below_on (unhide B0) hb)
      clear hb
      clear ho2 ha2 hn2 ho3 ha3 hn3 ap
      go_wp2_with fail
      refine (signI_v true a2 n2 c2 zs _ _ _ _ (unhide A2) (unhide O2) (unhide N2)).mono ?_
      rintro e w5 ⟨x1, rfl, hb, ow1, ar1⟩
      have s5 := hb.size
      replace z1 := fun o => frozen_later hb (World.block_lt_of_cell? _ _ k1_0) (z1 o)
      replace z2 := fun o => frozen_later hb (World.block_lt_of_cell? _ _ k2_0) (z2 o)
      replace k1_0 := cell_later hb k1_0
      replace k1_1 := cell_later hb k1_1
      replace k2_0 := cell_later hb k2_0
      replace k2_1 := cell_later hb k2_1
      clear k0_0
      replace A2 := hide ((unhide A2).later hb)
      replace A3 := hide ((unhide A3).later hb)
      replace O2 := hide ((unhide O2).later hb)
      replace O3 := hide ((unhide O3).later hb)
      have OW1 := hide (ow1)
      have AR1 := hide (ar1)
      replace HB := hide (below_on (unhide HB) hb)
      clear hb
      clear ow1 ar1
      go_wp2_with fail
      refine (signI_v false a3 0 c3 rs _ _ _ _ (unhide A3) (unhide O3) (unhide N3)).mono ?_
      rintro e w6 ⟨x2, rfl, hb, ow2, ar2⟩
      have s6 := hb.size
      replace z1 := fun o => frozen_later hb (World.block_lt_of_cell? _ _ k1_0) (z1 o)
      replace z2 := fun o => frozen_later hb (World.block_lt_of_cell? _ _ k2_0) (z2 o)
      replace k1_0 := cell_later hb k1_0
      replace k1_1 := cell_later hb k1_1
      replace k2_0 := cell_later hb k2_0
      replace k2_1 := cell_later hb k2_1
      replace A2 := hide ((unhide A2).later hb)
      replace A3 := hide ((unhide A3).later hb)
      replace O2 := hide ((unhide O2).later hb)
      replace O3 := hide ((unhide O3).later hb)
      replace OW1 := hide ((unhide OW1).later hb)
      replace AR1 := hide ((unhide AR1).later hb)
      have OW2 := hide (ow2)
      have AR2 := hide (ar2)
      replace HB := hide (below_on (unhide HB) hb)
      clear hb
      clear ow2 ar2
      have e1 : sU true ((N.natAbs : Int) / (D.natAbs : Int)) = N / D := (unhide FL).1
      have e2 : sU false ((N.natAbs : Int) % (D.natAbs : Int)) = N % D := (unhide FL).2
      have P1 : Hid (Ow (w.heap.size + 3) w6.heap.size w6 x1 (N / D)) := hide (by
        have a0 := (unhide OW1).wide (lo' := w.heap.size + 3) (hi' := w6.heap.size) (by first | omega | (simp; done) | (simp; omega)) (by omega)
        have a1 := unhide AR1
        rw [e1] at a0 a1
        exact outN_ow a0 a1 (by rw [← e1, sU_abs (unhide N2).nonneg]; exact unhide N2))
      have P2 : Hid (Ow (w.heap.size + 3) w6.heap.size w6 x2 (N % D)) := hide (by
        have a0 := (unhide OW2).wide (lo' := w.heap.size + 3) (hi' := w6.heap.size) (by first | omega | (simp; done) | (simp; omega)) (by omega)
        have a1 := unhide AR2
        rw [e2] at a0 a1
        exact outN_ow a0 a1 (by rw [← e2, sU_abs (unhide N3).nonneg]; exact unhide N3))
      clear e1 e2 OW1 OW2 AR1 AR2
      go_wp2
      refine bodyPost_ret (v := .tuple #[.agg #[.bool x1.g, .slice x1.a x1.n x1.c], .agg #[.bool x2.g, .slice x2.a x2.n x2.c]]) (by simp [results, Try.results153, go_sem, k1_0, k1_1, k2_0, k2_1]) rfl ?_
      have bt1 := metB_but (w5 := w6) (v := x1) (G := w.heap.size + 1)
      have bt2 := metB_but (w5 := (w6.setCell ⟨w.heap.size + 1, 0, none⟩ (.bool x1.g)).setCell ⟨w.heap.size + 1, 1, none⟩ (.slice x1.a x1.n x1.c)) (v := x2) (G := w.heap.size + 1 + 1)
      exact ⟨x1, x2, rfl, bt2.below (bt1.below (unhide HB) (by omega) (unhide HB).size) (by omega) (by have := bt1.size; have := (unhide HB).size; omega), (((unhide P1).but bt1 (.inr (by omega))).but bt2 (.inr (by omega))).wide (by omega) (by have := bt1.size; have := bt2.size; omega), (((unhide P2).but bt1 (.inr (by omega))).but bt2 (.inr (by omega))).wide (by omega) (by have := bt1.size; have := bt2.size; omega)⟩
    · have FL := hide (floor_neg hD hN hr)
      have HR := hide hr
      clear hr hN
      have B0 := hide (show Below w.heap.size w (((w.alloc (.cells #[.bool true, .slice a n c, .bool b.g, .slice b.a b.n b.c] 50)).alloc (.cells #[.bool false, .slice none 0 0] 25)).alloc (.cells #[.bool false, .slice none 0 0] 25)) from ((((Below.refl _ _).alloc (by simp) _).alloc (by simp) _).alloc (by simp <;> omega) _))
      go_enter Try.func153, Try.ntmps153
      go_wp2_with fail
      refine (divI_any a b.a n b.n c b.c xs ys _ ((unhide HX).later (unhide B0)) ((unhide HY).later (unhide B0)) (unhide NX).ok (unhide NX).tr (unhide NY).ok (unhide NY).tr (by omega) (by omega) (by omega)).mono ?_
      rintro e w1 ⟨a2, n2, c2, zs, a3, n3, c3, rs, rfl, hb, ho2, ha2, hn2, ho3, ha3, hn3, ap⟩
      have s1 : w.heap.size + 3 ≤ w1.heap.size := by have := hb.size; simp at this; omega
      rw [(unhide NX).v, (unhide NY).v] at hn2 hn3
      have N2 := hide hn2
      have N3 := hide hn3
      have ln : n2 ≤ 400000 := by rw [← ha2.len]; exact Nm.len_le (V := (N.natAbs : Int) / (D.natAbs : Int)) (by rw [Int.natAbs_of_nonneg (Int.ediv_nonneg (by omega) (by omega))]; exact hn2) ((unhide KN).le (by have h1 := Int.ediv_le_self (D.natAbs : Int) (show 0 ≤ (N.natAbs : Int) by omega); have h2 := Int.ediv_nonneg (show 0 ≤ (N.natAbs : Int) by omega) (show 0 ≤ (D.natAbs : Int) by omega); omega))
      have l3 : n3 = 0 ↔ (N.natAbs : Int) % (D.natAbs : Int) = 0 := by rw [← ha3.len, List.length_eq_zero_iff]; exact hn3.nil_iff
      have p3 : 0 < n3 := by have := unhide HR; omega
      have p3x : decide ((0 : Int) < (n3 : Int)) = true := by simp; omega
      have r3 : n3 ≤ b.n := by rw [← ha3.len]; exact hn3.le (unhide NY).ok (unhide HY).len (by rw [(unhide NY).v]; exact Int.le_of_lt (Int.emod_lt_of_pos _ (by omega)))
      clear l3
      have k0_0 : w1.cell? ⟨w.heap.size, 0, none⟩ = some (.bool true) := cell_later hb (by simp [go_sem])
      have k0_3 : w1.cell? ⟨w.heap.size, 3, none⟩ = some (.slice b.a b.n b.c) := cell_later hb (by simp [go_sem])
      have k1_0 : w1.cell? ⟨w.heap.size + 1, 0, none⟩ = some (.bool false) := cell_later hb (by simp [go_sem])
      have k1_1 : w1.cell? ⟨w.heap.size + 1, 1, none⟩ = some (.slice none 0 0) := cell_later hb (by simp [go_sem])
      have k2_0 : w1.cell? ⟨w.heap.size + 1 + 1, 0, none⟩ = some (.bool false) := cell_later hb (by simp [go_sem])
      have k2_1 : w1.cell? ⟨w.heap.size + 1 + 1, 1, none⟩ = some (.slice none 0 0) := cell_later hb (by simp [go_sem])
      have z1 : ∀ o, w1.frozen? ⟨w.heap.size + 1, o, none⟩ = false := fun o => frozen_later hb (by simp) (by simp [go_sem])
      have z2 : ∀ o, w1.frozen? ⟨w.heap.size + 1 + 1, o, none⟩ = false := fun o => frozen_later hb (by simp) (by simp [go_sem])
      have A2 := hide (ha2)
      have A3 := hide (ha3)
      have O2 := hide (ho2.two)
      have O3 := hide (ho3.two)
      have HB := hide (below_on (unhide B0) hb)
      clear hb
      clear ho2 ha2 hn2 ho3 ha3 hn3 ap
      have k0_0u : (w1.alloc (.cells #[.int .i64 1] 3)).cell? ⟨w.heap.size, 0, none⟩ = some (.bool true) := (ca_other k0_0)
      have k0_3u : (w1.alloc (.cells #[.int .i64 1] 3)).cell? ⟨w.heap.size, 3, none⟩ = some (.slice b.a b.n b.c) := (ca_other k0_3)
      have k1_0u : (w1.alloc (.cells #[.int .i64 1] 3)).cell? ⟨w.heap.size + 1, 0, none⟩ = some (.bool false) := (ca_other k1_0)
      have k1_1u : (w1.alloc (.cells #[.int .i64 1] 3)).cell? ⟨w.heap.size + 1, 1, none⟩ = some (.slice none 0 0) := (ca_other k1_1)
      have k2_0u : (w1.alloc (.cells #[.int .i64 1] 3)).cell? ⟨w.heap.size + 1 + 1, 0, none⟩ = some (.bool false) := (ca_other k2_0)
      have k2_1u : (w1.alloc (.cells #[.int .i64 1] 3)).cell? ⟨w.heap.size + 1 + 1, 1, none⟩ = some (.slice none 0 0) := (ca_other k2_1)
      go_wp2_with fail
      refine (addI_any a2 _ n2 1 c2 1 zs [1] _ ((unhide A2).later ((Below.refl _ _).alloc (by simp) _)) (one_arg w1 1).1 (unhide N2).ok nm_one.ok (by omega) (by omega)).mono ?_
      rintro e w2 ⟨a4, n4, c4, ws, rfl, hb, ho4, ha4, hn4⟩
      clear k0_0u k0_3u k1_0u k1_1u k2_0u k2_1u
      rw [(unhide N2).v, nm_one.v] at hn4
      have N4 := hide hn4
      have s2 : w1.heap.size + 1 ≤ w2.heap.size := by have := hb.size; simp at this; omega
      have hbx := ba (hb)
      replace z1 := fun o => frozen_later hbx (World.block_lt_of_cell? _ _ k1_0) (z1 o)
      replace z2 := fun o => frozen_later hbx (World.block_lt_of_cell? _ _ k2_0) (z2 o)
      replace k0_0 := cell_later hbx k0_0
      replace k0_3 := cell_later hbx k0_3
      replace k1_0 := cell_later hbx k1_0
      replace k1_1 := cell_later hbx k1_1
      replace k2_0 := cell_later hbx k2_0
      replace k2_1 := cell_later hbx k2_1
      replace A2 := hide ((unhide A2).later hbx)
      replace A3 := hide ((unhide A3).later hbx)
      replace O2 := hide ((unhide O2).later hbx)
      replace O3 := hide ((unhide O3).later hbx)
      have A4 := hide (ha4)
      have O4 := hide (ho4.two)
      replace HB := hide (below_on (unhide HB) hbx)
      clear hbx hb
      clear ho4 ha4 hn4
      go_wp2_with fail
      refine (subI_any b.a a3 b.n n3 b.c c3 ys rs _ ((unhide HY).later (unhide HB)) (unhide A3) (unhide NY).ok (unhide N3).ok (by omega) r3 (by rw [(unhide N3).v, (unhide NY).v]; exact Int.le_of_lt (Int.emod_lt_of_pos _ (by omega)))).mono ?_
      rintro e w3 ⟨a5, n5, c5, ts, rfl, hb, ho5, ha5, hn5⟩
      rw [(unhide N3).v, (unhide NY).v] at hn5
      have N5 := hide hn5
      have s3 := hb.size
      replace z1 := fun o => frozen_later hb (World.block_lt_of_cell? _ _ k1_0) (z1 o)
      replace z2 := fun o => frozen_later hb (World.block_lt_of_cell? _ _ k2_0) (z2 o)
      replace k0_0 := cell_later hb k0_0
      replace k1_0 := cell_later hb k1_0
      replace k1_1 := cell_later hb k1_1
      replace k2_0 := cell_later hb k2_0
      replace k2_1 := cell_later hb k2_1
      clear k0_3
      replace A2 := hide ((unhide A2).later hb)
      replace A3 := hide ((unhide A3).later hb)
      replace O2 := hide ((unhide O2).later hb)
      replace O3 := hide ((unhide O3).later hb)
      replace A4 := hide ((unhide A4).later hb)
      replace O4 := hide ((unhide O4).later hb)
      have A5 := hide (ha5)
      have O5 := hide (ho5.two)
      replace HB := hide (below_on (unhide HB) hb)
      clear hb
      clear ho5 ha5 hn5
      clear A2 A3 O2 O3
      go_wp2_with fail
      refine (signI_v true a4 n4 c4 ws _ _ _ _ (unhide A4) (unhide O4) (unhide N4)).mono ?_
      rintro e w5 ⟨x1, rfl, hb, ow1, ar1⟩
      have s5 := hb.size
      replace z1 := fun o => frozen_later hb (World.block_lt_of_cell? _ _ k1_0) (z1 o)
      replace z2 := fun o => frozen_later hb (World.block_lt_of_cell? _ _ k2_0) (z2 o)
      replace k1_0 := cell_later hb k1_0
      replace k1_1 := cell_later hb k1_1
      replace k2_0 := cell_later hb k2_0
      replace k2_1 := cell_later hb k2_1
      clear k0_0
      replace A4 := hide ((unhide A4).later hb)
      replace O4 := hide ((unhide O4).later hb)
      replace A5 := hide ((unhide A5).later hb)
      replace O5 := hide ((unhide O5).later hb)
      have OW1 := hide (ow1)
      have AR1 := hide (ar1)
      replace HB := hide (below_on (unhide HB) hb)
      clear hb
      clear ow1 ar1
      go_wp2_with fail
      refine (signI_v false a5 n5 c5 ts _ _ _ _ (unhide A5) (unhide O5) (unhide N5)).mono ?_
      rintro e w6 ⟨x2, rfl, hb, ow2, ar2⟩
      have s6 := hb.size
      replace z1 := fun o => frozen_later hb (World.block_lt_of_cell? _ _ k1_0) (z1 o)
      replace z2 := fun o => frozen_later hb (World.block_lt_of_cell? _ _ k2_0) (z2 o)
      replace k1_0 := cell_later hb k1_0
      replace k1_1 := cell_later hb k1_1
      replace k2_0 := cell_later hb k2_0
      replace k2_1 := cell_later hb k2_1
      replace A4 := hide ((unhide A4).later hb)
      replace O4 := hide ((unhide O4).later hb)
      replace A5 := hide ((unhide A5).later hb)
      replace O5 := hide ((unhide O5).later hb)
      replace OW1 := hide ((unhide OW1).later hb)
      replace AR1 := hide ((unhide AR1).later hb)
      have OW2 := hide (ow2)
      have AR2 := hide (ar2)
      replace HB := hide (below_on (unhide HB) hb)
      clear hb
      clear ow2 ar2
      have e1 : sU true ((N.natAbs : Int) / (D.natAbs : Int) + 1) = N / D := (unhide FL).1
      have e2 : sU false ((D.natAbs : Int) - (N.natAbs : Int) % (D.natAbs : Int)) = N % D := (unhide FL).2
      have P1 : Hid (Ow (w.heap.size + 3) w6.heap.size w6 x1 (N / D)) := hide (by
        have a0 := (unhide OW1).wide (lo' := w.heap.size + 3) (hi' := w6.heap.size) (by first | omega | (simp; done) | (simp; omega)) (by omega)
        have a1 := unhide AR1
        rw [e1] at a0 a1
        exact outN_ow a0 a1 (by rw [← e1, sU_abs (unhide N4).nonneg]; exact unhide N4))
      have P2 : Hid (Ow (w.heap.size + 3) w6.heap.size w6 x2 (N % D)) := hide (by
        have a0 := (unhide OW2).wide (lo' := w.heap.size + 3) (hi' := w6.heap.size) (by first | omega | (simp; done) | (simp; omega)) (by omega)
        have a1 := unhide AR2
        rw [e2] at a0 a1
        exact outN_ow a0 a1 (by rw [← e2, sU_abs (unhide N5).nonneg]; exact unhide N5))
      clear e1 e2 OW1 OW2 AR1 AR2
      go_wp2
      refine bodyPost_ret (v := .tuple #[.agg #[.bool x1.g, .slice x1.a x1.n x1.c], .agg #[.bool x2.g, .slice x2.a x2.n x2.c]]) (by simp [results, Try.results153, go_sem, k1_0, k1_1, k2_0, k2_1]) rfl ?_
      have bt1 := metB_but (w5 := w6) (v := x1) (G := w.heap.size + 1)
      have bt2 := metB_but (w5 := (w6.setCell ⟨w.heap.size + 1, 0, none⟩ (.bool x1.g)).setCell ⟨w.heap.size + 1, 1, none⟩ (.slice x1.a x1.n x1.c)) (v := x2) (G := w.heap.size + 1 + 1)
      exact ⟨x1, x2, rfl, bt2.below (bt1.below (unhide HB) (by omega) (unhide HB).size) (by omega) (by have := bt1.size; have := (unhide HB).size; omega), (((unhide P1).but bt1 (.inr (by omega))).but bt2 (.inr (by omega))).wide (by omega) (by have := bt1.size; have := bt2.size; omega), (((unhide P2).but bt1 (.inr (by omega))).but bt2 (.inr (by omega))).wide (by omega) (by have := bt1.size; have := bt2.size; omega)⟩
  · obtain rfl : g = false := by rw [sx]; exact decide_eq_false hN
    clear sx
    have hr := True.intro
    have FL := hide (floor_pos hD hN)
    have HR := hide hr
    clear hr hN
    have B0 := hide (show Below w.heap.size w (((w.alloc (.cells #[.bool false, .slice a n c, .bool b.g, .slice b.a b.n b.c] 50)).alloc (.cells #[.bool false, .slice none 0 0] 25)).alloc (.cells #[.bool false, .slice none 0 0] 25)) from ((((Below.refl _ _).alloc (by simp) _).alloc (by simp) _).alloc (by simp <;> omega) _))
    go_enter Try.func153, Try.ntmps153
    go_wp2_with fail
    refine (divI_any a b.a n b.n c b.c xs ys _ ((unhide HX).later (unhide B0)) ((unhide HY).later (unhide B0)) (unhide NX).ok (unhide NX).tr (unhide NY).ok (unhide NY).tr (by omega) (by omega) (by omega)).mono ?_
    rintro e w1 ⟨a2, n2, c2, zs, a3, n3, c3, rs, rfl, hb, ho2, ha2, hn2, ho3, ha3, hn3, ap⟩
    have s1 : w.heap.size + 3 ≤ w1.heap.size := by have := hb.size; simp at this; omega
    rw [(unhide NX).v, (unhide NY).v] at hn2 hn3
    have N2 := hide hn2
    have N3 := hide hn3
    have ln : n2 ≤ 400000 := by rw [← ha2.len]; exact Nm.len_le (V := (N.natAbs : Int) / (D.natAbs : Int)) (by rw [Int.natAbs_of_nonneg (Int.ediv_nonneg (by omega) (by omega))]; exact hn2) ((unhide KN).le (by have h1 := Int.ediv_le_self (D.natAbs : Int) (show 0 ≤ (N.natAbs : Int) by omega); have h2 := Int.ediv_nonneg (show 0 ≤ (N.natAbs : Int) by omega) (show 0 ≤ (D.natAbs : Int) by omega); omega))
    have l3 : n3 = 0 ↔ (N.natAbs : Int) % (D.natAbs : Int) = 0 := by rw [← ha3.len, List.length_eq_zero_iff]; exact hn3.nil_iff

    clear l3
    have k0_0 : w1.cell? ⟨w.heap.size, 0, none⟩ = some (.bool false) := cell_later hb (by simp [go_sem])
    have k1_0 : w1.cell? ⟨w.heap.size + 1, 0, none⟩ = some (.bool false) := cell_later hb (by simp [go_sem])
    have k1_1 : w1.cell? ⟨w.heap.size + 1, 1, none⟩ = some (.slice none 0 0) := cell_later hb (by simp [go_sem])
    have k2_0 : w1.cell? ⟨w.heap.size + 1 + 1, 0, none⟩ = some (.bool false) := cell_later hb (by simp [go_sem])
    have k2_1 : w1.cell? ⟨w.heap.size + 1 + 1, 1, none⟩ = some (.slice none 0 0) := cell_later hb (by simp [go_sem])
    have z1 : ∀ o, w1.frozen? ⟨w.heap.size + 1, o, none⟩ = false := fun o => frozen_later hb (by simp) (by simp [go_sem])
    have z2 : ∀ o, w1.frozen? ⟨w.heap.size + 1 + 1, o, none⟩ = false := fun o => frozen_later hb (by simp) (by simp [go_sem])
    have A2 := hide (ha2)
    have A3 := hide (ha3)
    have O2 := hide (ho2.two)
    have O3 := hide (ho3.two)
    have HB := hide (below_on (unhide B0) hb)
    clear hb
    clear ho2 ha2 hn2 ho3 ha3 hn3 ap
    go_wp2_with fail
    refine (signI_v false a2 n2 c2 zs _ _ _ _ (unhide A2) (unhide O2) (unhide N2)).mono ?_
    rintro e w5 ⟨x1, rfl, hb, ow1, ar1⟩
    have s5 := hb.size
    replace z1 := fun o => frozen_later hb (World.block_lt_of_cell? _ _ k1_0) (z1 o)
    replace z2 := fun o => frozen_later hb (World.block_lt_of_cell? _ _ k2_0) (z2 o)
    replace k1_0 := cell_later hb k1_0
    replace k1_1 := cell_later hb k1_1
    replace k2_0 := cell_later hb k2_0
    replace k2_1 := cell_later hb k2_1
    clear k0_0
    replace A2 := hide ((unhide A2).later hb)
    replace A3 := hide ((unhide A3).later hb)
    replace O2 := hide ((unhide O2).later hb)
    replace O3 := hide ((unhide O3).later hb)
    have OW1 := hide (ow1)
    have AR1 := hide (ar1)
    replace HB := hide (below_on (unhide HB) hb)
    clear hb
    clear ow1 ar1
    go_wp2_with fail
    refine (signI_v false a3 n3 c3 rs _ _ _ _ (unhide A3) (unhide O3) (unhide N3)).mono ?_
    rintro e w6 ⟨x2, rfl, hb, ow2, ar2⟩
    have s6 := hb.size
    replace z1 := fun o => frozen_later hb (World.block_lt_of_cell? _ _ k1_0) (z1 o)
    replace z2 := fun o => frozen_later hb (World.block_lt_of_cell? _ _ k2_0) (z2 o)
    replace k1_0 := cell_later hb k1_0
    replace k1_1 := cell_later hb k1_1
    replace k2_0 := cell_later hb k2_0
    replace k2_1 := cell_later hb k2_1
    replace A2 := hide ((unhide A2).later hb)
    replace A3 := hide ((unhide A3).later hb)
    replace O2 := hide ((unhide O2).later hb)
    replace O3 := hide ((unhide O3).later hb)
    replace OW1 := hide ((unhide OW1).later hb)
    replace AR1 := hide ((unhide AR1).later hb)
    have OW2 := hide (ow2)
    have AR2 := hide (ar2)
    replace HB := hide (below_on (unhide HB) hb)
    clear hb
    clear ow2 ar2
    have e1 : sU false ((N.natAbs : Int) / (D.natAbs : Int)) = N / D := (unhide FL).1
    have e2 : sU false ((N.natAbs : Int) % (D.natAbs : Int)) = N % D := (unhide FL).2
    have P1 : Hid (Ow (w.heap.size + 3) w6.heap.size w6 x1 (N / D)) := hide (by
      have a0 := (unhide OW1).wide (lo' := w.heap.size + 3) (hi' := w6.heap.size) (by first | omega | (simp; done) | (simp; omega)) (by omega)
      have a1 := unhide AR1
      rw [e1] at a0 a1
      exact outN_ow a0 a1 (by rw [← e1, sU_abs (unhide N2).nonneg]; exact unhide N2))
    have P2 : Hid (Ow (w.heap.size + 3) w6.heap.size w6 x2 (N % D)) := hide (by
      have a0 := (unhide OW2).wide (lo' := w.heap.size + 3) (hi' := w6.heap.size) (by first | omega | (simp; done) | (simp; omega)) (by omega)
      have a1 := unhide AR2
      rw [e2] at a0 a1
      exact outN_ow a0 a1 (by rw [← e2, sU_abs (unhide N3).nonneg]; exact unhide N3))
    clear e1 e2 OW1 OW2 AR1 AR2
    go_wp2
    refine bodyPost_ret (v := .tuple #[.agg #[.bool x1.g, .slice x1.a x1.n x1.c], .agg #[.bool x2.g, .slice x2.a x2.n x2.c]]) (by simp [results, Try.results153, go_sem, k1_0, k1_1, k2_0, k2_1]) rfl ?_
    have bt1 := metB_but (w5 := w6) (v := x1) (G := w.heap.size + 1)
    have bt2 := metB_but (w5 := (w6.setCell ⟨w.heap.size + 1, 0, none⟩ (.bool x1.g)).setCell ⟨w.heap.size + 1, 1, none⟩ (.slice x1.a x1.n x1.c)) (v := x2) (G := w.heap.size + 1 + 1)
    exact ⟨x1, x2, rfl, bt2.below (bt1.below (unhide HB) (by omega) (unhide HB).size) (by omega) (by have := bt1.size; have := (unhide HB).size; omega), (((unhide P1).but bt1 (.inr (by omega))).but bt2 (.inr (by omega))).wide (by omega) (by have := bt1.size; have := bt2.size; omega), (((unhide P2).but bt1 (.inr (by omega))).but bt2 (.inr (by omega))).wide (by omega) (by have := bt1.size; have := bt2.size; omega)⟩
end Go.Proofs.Ytagnhgefdcckoaa
namespace Go.Proofs.Ytagnhgefdcckoaa
open Go.RowKit
set_option linter.unusedVariables false
set_option maxRecDepth 100000
set_option linter.unusedSimpArgs false

/-- Two numbers and a bool are answered, in memory of the call's own, apart. -/
def RetD (w : World) (U : QD → Bool → Prop) (e : Ending) (w' : World) : Prop := ∃ (v : QV) (d : QD) (ok : Bool), e = .returned (.tuple #[.agg #[.bool v.num.g, .slice v.num.a v.num.n v.num.c], .agg #[.bool v.den.g, .slice v.den.a v.den.n v.den.c], .bool ok]) ∧ Below w.heap.size w w' ∧ AllOwn w.heap.size w'.heap.size w' [(v.num, d.num), (v.den, d.den)] ∧ U d ok
theorem RetD.drew {w W : World} {U : QD → Bool → Prop} {e : Ending} (h : RetD w U e W) : RetD w U e W.drew := by
  obtain ⟨v, d, ok, rfl, hb, ho, hu⟩ := h
  exact ⟨v, d, ok, rfl, hb.drew, ho.later (Below.refl _ _).drew, hu⟩
def AnsD (P : Bool) (A B : Int) (d : QD) (ok : Bool) : Prop := AnsB P A d.num ok ∧ AnsB P B d.den ok
theorem AnsD.same {P : Bool} {A B : Int} {d d' : QD} {ok ok' : Bool} (h : AnsD P A B d ok) (k : AnsD P A B d' ok') : d = d' ∧ ok = ok' := by
  obtain ⟨e1, e2⟩ := h.1.same k.1
  obtain ⟨e3, _⟩ := h.2.same k.2
  obtain ⟨d1, d2⟩ := d
  obtain ⟨d3, d4⟩ := d'
  simp only at e1 e3
  exact ⟨by rw [e1, e3], e2⟩
theorem AnsD.lens {P : Bool} {A B : Int} {d : QD} {ok : Bool} (h : AnsD P A B d ok) : d.num.xs.length ≤ 40 ∧ d.den.xs.length ≤ 40 := ⟨h.1.lens, h.2.lens⟩
/-- The quotient and the rest of two numbers as they are read. -/
def qD (d d' : BD) : Int := sU (!(d.g == d'.g)) (val d.xs / val d'.xs)
def rD (d d' : BD) : Int := sU d.g (val d.xs % val d'.xs)
def pD (d d' : BD) : Bool := (goodB d.g d.xs && goodB d'.g d'.xs) && decide (d'.xs.length ≠ 0)
theorem dOwn_zero (lo hi : Nat) (w : World) : AllOwn lo hi w [((⟨⟨false, none, 0, 0⟩, ⟨false, none, 0, 0⟩⟩ : QV).num, (⟨⟨false, []⟩, ⟨false, []⟩⟩ : QD).num), ((⟨⟨false, none, 0, 0⟩, ⟨false, none, 0, 0⟩⟩ : QV).den, (⟨⟨false, []⟩, ⟨false, []⟩⟩ : QD).den)] := zeroQ lo hi w
theorem AnsD.no {A B : Int} : AnsD false A B ⟨⟨false, []⟩, ⟨false, []⟩⟩ false := ⟨.inr ⟨rfl, rfl, rfl⟩, .inr ⟨rfl, rfl, rfl⟩⟩
theorem retD_fin {w wN : World} {R : Nat} {v : QV} {d : QD} {ok : Bool} {U : QD → Bool → Prop} (hR : w.heap.size ≤ R) (hb : Below w.heap.size w wN) (ho : AllOwn (R + 1 + 1) wN.heap.size wN [(v.num, d.num), (v.den, d.den)]) (hu : U d ok) :
    RetD w U (.returned (.tuple #[.agg #[.bool v.num.g, .slice v.num.a v.num.n v.num.c], .agg #[.bool v.den.g, .slice v.den.a v.den.n v.den.c], .bool ok])) ((((wN.setCell ⟨R, 0, none⟩ (.bool v.num.g)).setCell ⟨R, 1, none⟩ (.slice v.num.a v.num.n v.num.c)).setCell ⟨R + 1, 0, none⟩ (.bool v.den.g)).setCell ⟨R + 1, 1, none⟩ (.slice v.den.a v.den.n v.den.c)) := by
  have bt1 := metB_but (w5 := wN) (v := v.num) (G := R)
  have bt2 := metB_but (w5 := (wN.setCell ⟨R, 0, none⟩ (.bool v.num.g)).setCell ⟨R, 1, none⟩ (.slice v.num.a v.num.n v.num.c)) (v := v.den) (G := R + 1)
  have h1 := bt1.below hb hR hb.size
  exact ⟨v, d, ok, rfl, bt2.below h1 (by omega) h1.size, ((ho.but bt1 (.inr (by omega))).but bt2 (.inr (by omega))).wide (by omega) (Nat.le_trans bt1.size bt2.size), hu⟩
/-- What a quotient and a rest lie in can be cut in two. -/
theorem mid_of {lo : Nat} {w : World} {a a' : Option Addr} {zs rs : List Int} (h : Own lo w a zs) (h' : Own lo w a' rs) (k : Apart a zs a' rs) (hl : lo ≤ w.heap.size) : ∃ mid, lo ≤ mid ∧ mid ≤ w.heap.size ∧ Own2 lo mid w a zs ∧ Own2 mid w.heap.size w a' rs := by
  rcases k with k | k | ⟨b, o, b', o', ea, ea', hlt⟩
  · exact ⟨lo, Nat.le_refl _, hl, .inl k, h'.two⟩
  · exact ⟨w.heap.size, hl, Nat.le_refl _, h.two, .inl k⟩
  · rcases h.two with e | ⟨c, cur, e, h1, h2, hg, hc⟩
    · exact ⟨lo, Nat.le_refl _, hl, .inl e, h'.two⟩
    · rcases h'.two with e' | ⟨c', cur', e', h1', h2', hg', hc'⟩
      · exact ⟨w.heap.size, hl, Nat.le_refl _, h.two, .inl e'⟩
      · have f1 : c = b := by rw [ea] at e; injection e with e; injection e with e _ _; exact e.symm
        have f2 : c' = b' := by rw [ea'] at e'; injection e' with e'; injection e' with e' _ _; exact e'.symm
        exact ⟨c', by omega, by omega, .inr ⟨c, cur, e, h1, by omega, hg, hc⟩, .inr ⟨c', cur', e', Nat.le_refl _, h2', hg', hc'⟩⟩
theorem div_short {xs ys zs rs : List Int} (ox : okL xs) (hy : 0 < val ys) (h : Nm zs (val xs / val ys)) (k : Nm rs (val xs % val ys)) : zs.length ≤ xs.length ∧ rs.length ≤ xs.length := by
  have x0 := val_nonneg ox
  have h1 : val xs / val ys ≤ val xs := Int.ediv_le_self _ x0
  have h2 : 0 ≤ val xs / val ys := Int.ediv_nonneg x0 (by omega)
  have h3 : val xs % val ys ≤ val xs := by have e1 := Int.emod_add_mul_ediv (val xs) (val ys); have e2 := Int.mul_nonneg (show 0 ≤ val ys by omega) h2; omega
  exact ⟨len_of_val ox h.ok h.tr (by rw [h.v]; exact h1), len_of_val ox k.ok k.tr (by rw [k.v]; exact h3)⟩
theorem val_pos_of {ys : List Int} (oy : okL ys) (ty : trim ys = ys) (h : ys.length ≠ 0) : 0 < val ys := by
  have h1 := val_nonneg oy
  have h2 := (val_zero_iff oy ty)
  by_cases e : val ys = 0
  · exact absurd (by rw [h2.1 e]; rfl) h
  · omega
theorem ansD_yes {d d' : BD} {zs rs : List Int} (hg1 : goodB d.g d.xs = true) (hg2 : goodB d'.g d'.xs = true) (h0 : d'.xs.length ≠ 0) (h : Nm zs (val d.xs / val d'.xs)) (k : Nm rs (val d.xs % val d'.xs)) :
    AnsD (pD d d') (qD d d') (rD d d') ⟨⟨decide (qD d d' < 0), zs⟩, ⟨decide (rD d d' < 0), rs⟩⟩ true := by
  obtain ⟨ox, tx, lx, _⟩ := good_parts hg1
  obtain ⟨oy, ty, ly, _⟩ := good_parts hg2
  have hp : pD d d' = true := by unfold pD; rw [hg1, hg2]; simp only [Bool.and_self, Bool.true_and]; exact decide_eq_true h0
  have y0 := val_pos_of oy ty h0
  obtain ⟨l1, l2⟩ := div_short ox y0 h k
  refine ⟨.inl ⟨hp, rfl, rfl, ?_, ?_⟩, .inl ⟨hp, rfl, rfl, ?_, ?_⟩⟩
  · show Nm zs ((qD d d').natAbs : Int)
    unfold qD; rw [sU_abs (Int.ediv_nonneg (val_nonneg ox) (by omega))]; exact h
  · exact Nat.le_trans l1 lx
  · show Nm rs ((rD d d').natAbs : Int)
    unfold rD; rw [sU_abs (Int.emod_nonneg _ (by omega))]; exact k
  · exact Nat.le_trans l2 lx

/-- The specification's l1Div at good numbers. -/
def OutD (w : World) (d d' : BD) (e : Ending) (w' : World) : Prop := ∃ (x y : BV) (zs rs : List Int), e = .returned (.tuple #[.agg #[.bool x.g, .slice x.a x.n x.c], .agg #[.bool y.g, .slice y.a y.n y.c]]) ∧ Below w.heap.size w w' ∧ AllOwn w.heap.size w'.heap.size w' [(x, ⟨decide (qD d d' < 0), zs⟩), (y, ⟨decide (rD d d' < 0), rs⟩)] ∧ Nm zs (val d.xs / val d'.xs) ∧ Nm rs (val d.xs % val d'.xs)
set_option maxHeartbeats 4000000 in
theorem l1DivD (b b' : BV) (d d' : BD) (w : World) (h : AllAr w [(b, d)]) (h' : AllAr w [(b', d')]) (hg1 : goodB d.g d.xs = true) (hg2 : goodB d'.g d'.xs = true) (h0 : d'.xs.length ≠ 0) :
    Calls Try.prog 56 #[.agg #[.bool b.g, .slice b.a b.n b.c], .agg #[.bool b'.g, .slice b'.a b'.n b'.c]] w (OutD w d d') := by
  have HX := hide h.head
  have HY := hide h'.head
  clear h h'
  have NX := hide (good_parts hg1)
  have NY := hide (good_parts hg2)
  have GG := hide (And.intro hg1 hg2)
  have LX : Hid (b.n ≤ 40 ∧ b'.n ≤ 40 ∧ 1 ≤ b'.n) := hide (by have := (good_parts hg1).2.2.1; have := (good_parts hg2).2.2.1; have := (unhide HX).ar.len; have := (unhide HY).ar.len; omega)
  have SX := hide (And.intro (unhide HX).sg (unhide HY).sg)
  have YP := hide (val_pos_of (unhide NY).1 (unhide NY).2.1 h0)
  have B0 := hide (show Below w.heap.size w ((((w.alloc (.cells #[.bool b.g, .slice b.a b.n b.c] 25)).alloc (.cells #[.bool b'.g, .slice b'.a b'.n b'.c] 25)).alloc (.cells #[.bool false, .slice none 0 0] 25)).alloc (.cells #[.bool false, .slice none 0 0] 25)) from (((((Below.refl _ _).alloc (by simp) _).alloc (by simp) _).alloc (by simp <;> omega) _).alloc (by simp <;> omega) _))
  clear hg1 hg2 h0
  go_enter Try.func56, Try.ntmps56
  go_wp2_with fail
  refine (divS_any b.a b'.a b.n b'.n b.c b'.c d.xs d'.xs _ ((unhide HX).ar.later (unhide B0)) ((unhide HY).ar.later (unhide B0)) (unhide NX).1 (unhide NX).2.1 (unhide NY).1 (unhide NY).2.1 (unhide LX).2.2 (by have := unhide LX; omega) (by have := unhide LX; omega)).mono ?_
  rintro e w2 ⟨a2, n2, c2, zs, a3, n3, c3, rs, rfl, hb, ho2, ha2, hn2, ho3, ha3, hn3, _⟩
  have s2 : w.heap.size + 1 + 1 + 1 + 1 ≤ w2.heap.size := by have := hb.size; simp at this; omega
  have hq := div_short (unhide NX).1 (unhide YP) hn2 hn3
  have q2 : n2 ≤ 400000 := by have := unhide LX; have := (unhide HX).ar.len; have := ha2.len; omega
  have q3 : n3 ≤ 400000 := by have := unhide LX; have := (unhide HX).ar.len; have := ha3.len; omega
  have N2 := hide hn2
  have N3 := hide hn3
  have k0_0 : w2.cell? ⟨w.heap.size, 0, none⟩ = some (.bool b.g) := cell_later hb (by simp [go_sem])
  have k1_0 : w2.cell? ⟨w.heap.size + 1, 0, none⟩ = some (.bool b'.g) := cell_later hb (by simp [go_sem])
  have k2_0 : w2.cell? ⟨w.heap.size + 1 + 1, 0, none⟩ = some (.bool false) := cell_later hb (by simp [go_sem])
  have k2_1 : w2.cell? ⟨w.heap.size + 1 + 1, 1, none⟩ = some (.slice none 0 0) := cell_later hb (by simp [go_sem])
  have k3_0 : w2.cell? ⟨w.heap.size + 1 + 1 + 1, 0, none⟩ = some (.bool false) := cell_later hb (by simp [go_sem])
  have k3_1 : w2.cell? ⟨w.heap.size + 1 + 1 + 1, 1, none⟩ = some (.slice none 0 0) := cell_later hb (by simp [go_sem])
  have z2 : ∀ o, w2.frozen? ⟨w.heap.size + 1 + 1, o, none⟩ = false := fun o => frozen_later hb (by simp) (by simp [go_sem])
  have z3 : ∀ o, w2.frozen? ⟨w.heap.size + 1 + 1 + 1, o, none⟩ = false := fun o => frozen_later hb (by simp) (by simp [go_sem])
  have A2 := hide (ha2)
  have A3 := hide (ha3)
  have HB := hide (below_on (unhide B0) hb)
  clear hb
  clear ho2 ha2 hn2 ho3 ha3 hn3 hq
  have ne : (w.heap.size ≠ w.heap.size + 1 + 1) ∧ (w.heap.size + 1 ≠ w.heap.size + 1 + 1) ∧ (w.heap.size ≠ w.heap.size + 1 + 1 + 1) ∧ (w.heap.size + 1 ≠ w.heap.size + 1 + 1 + 1) := by omega
  go_upto_region 2 with fail
  go_region_held3 (fun w' => w'.cell? ⟨w.heap.size, 0, none⟩ = some (.bool b.g) ∧ w'.cell? ⟨w.heap.size + 1, 0, none⟩ = some (.bool b'.g)) (with_reducible (first | exact ⟨k0_0, k1_0⟩ | exact ⟨cd_other k0_0, cd_other k1_0⟩ | exact ⟨j0, j1⟩ | exact ⟨i0, i1⟩ | exact ⟨cs_other (cs_other i0 ne.1) ne.1, cs_other (cs_other i1 ne.2.1) ne.2.1⟩ | exact ⟨cs_other (cs_other (cs_other (cs_other i0 ne.1) ne.1) ne.2.2.1) ne.2.2.1, cs_other (cs_other (cs_other (cs_other i1 ne.2.1) ne.2.1) ne.2.2.2) ne.2.2.2⟩ | fail))
    (first
    | (go_at_call_of 53 (Value.bool (!(b.g == b'.g))); refine (makeS_v _ a2 n2 c2 zs _ (val d.xs / val d'.xs) (?_) (unhide N2) (?_)).mono ?_; exact (unhide A2).drew; omega; rintro e w3 ⟨x1, rfl, hb', ow1, ar1⟩; have hb := below_of_drew hb'; have s3 := hb.size; have OW1 := hide (show AllOwn w2.heap.size w3.heap.size w3 _ from ow1); have A3b := hide ((unhide A3).later hb); have B3 := hide hb; have j0 := cell_later hb k0_0; have j1 := cell_later hb k1_0; have j2 := cell_later hb k2_0; have j3 := cell_later hb k2_1; have j4 := cell_later hb k3_0; have j5 := cell_later hb k3_1; have y2 := fun o => frozen_later hb (World.block_lt_of_cell? _ _ k2_0) (z2 o); have y3 := fun o => frozen_later hb (World.block_lt_of_cell? _ _ k3_0) (z3 o); clear ow1 ar1 hb hb')
    | (go_at_call_of 53 (Value.bool b.g); refine (makeS_v _ a3 n3 c3 rs _ (val d.xs % val d'.xs) (?_) (unhide N3) (?_)).mono ?_; exact unhide A3b; omega; rintro e w4 ⟨x2, rfl, hb, ow2, ar2⟩; have s4 := hb.size; have OW2 := hide ow2; have OW1b := hide ((unhide OW1).later hb); have B4 := hide hb; have i0 := cell_later hb j0; have i1 := cell_later hb j1; have i2 := cell_later hb j2; have i3 := cell_later hb j3; have i4 := cell_later hb j4; have i5 := cell_later hb j5; have u2 := fun o => frozen_later hb (World.block_lt_of_cell? _ _ j2) (y2 o); have u3 := fun o => frozen_later hb (World.block_lt_of_cell? _ _ j4) (y3 o); clear ow2 ar2 hb))
  all_goals
    have HB2 := hide (below_on (below_on (unhide HB) (unhide B3)) (unhide B4))
    go_wp2
    refine bodyPost_ret (v := .tuple #[.agg #[.bool x1.g, .slice x1.a x1.n x1.c], .agg #[.bool x2.g, .slice x2.a x2.n x2.c]]) (by simp [results, Try.results56, go_sem, i2, i3, i4, i5]) rfl ?_
    have bt1 := metB_but (w5 := w4) (v := x1) (G := w.heap.size + 1 + 1)
    have bt2 := metB_but (w5 := (w4.setCell ⟨w.heap.size + 1 + 1, 0, none⟩ (.bool x1.g)).setCell ⟨w.heap.size + 1 + 1, 1, none⟩ (.slice x1.a x1.n x1.c)) (v := x2) (G := w.heap.size + 1 + 1 + 1)
    have a1 := unhide OW1b
    have a2' := unhide OW2
    rw [(unhide SX).1, (unhide SX).2] at a1
    rw [(unhide SX).1] at a2'
    exact ⟨x1, x2, zs, rs, rfl, bt2.below (bt1.below (unhide HB2) (by omega) (unhide HB2).size) (by omega) (by have := bt1.size; have := (unhide HB2).size; omega), (((a1.join a2' (by omega) (by omega)).but bt1 (.inr (by omega))).but bt2 (.inr (by omega))).wide (by omega) (by have := bt1.size; have := bt2.size; omega), unhide N2, unhide N3⟩

set_option maxHeartbeats 4000000 in
theorem DivS_a (b b' : BV) (d d' : BD) (w : World) (h : AllAr w [(b, d)]) (h' : AllAr w [(b', d')]) : Calls Try.prog 13 #[.agg #[.bool b.g, .slice b.a b.n b.c], .agg #[.bool b'.g, .slice b'.a b'.n b'.c]] w (RetD w (AnsD (pD d d') (qD d d') (rD d d'))) := by
  have HX := hide h.head
  have HY := hide h'.head
  clear h h'
  cases hg1 : goodB d.g d.xs
  · have C1 := hide (fun w1 (k : Sl w1 b.a d.xs) => goodS_any b.g b.a b.n b.c d.xs w1 k (unhide HX).ar.len (Nat.le_trans (unhide HX).ar.cap (unhide HX).ar.top))
    rw [(unhide HX).sg, hg1, ← (unhide HX).sg] at C1
    have B0 := hide (show Below w.heap.size w ((((w.alloc (.cells #[.bool b.g, .slice b.a b.n b.c] 25)).alloc (.cells #[.bool b'.g, .slice b'.a b'.n b'.c] 25)).alloc (.cells #[.bool false, .slice none 0 0] 25)).alloc (.cells #[.bool false, .slice none 0 0] 25)) from (((((Below.refl _ _).alloc (by simp) _).alloc (by simp) _).alloc (by simp <;> omega) _).alloc (by simp <;> omega) _))
    have hp : pD d d' = false := by unfold pD; rw [hg1]; rfl
    rw [hp]
    go_enter Try.func13, Try.ntmps13
    go_wp2_with fail
    refine (unhide C1 _ ((unhide HX).ar.later (unhide B0)).sl).mono ?_
    rintro e w1 ⟨rfl, hb⟩
    have r0 : w1.cell? ⟨w.heap.size + 1 + 1, 0, none⟩ = some (.bool false) := cell_later hb (by simp [go_sem])
    have r1 : w1.cell? ⟨w.heap.size + 1 + 1, 1, none⟩ = some (.slice none 0 0) := cell_later hb (by simp [go_sem])
    have r2 : w1.cell? ⟨w.heap.size + 1 + 1 + 1, 0, none⟩ = some (.bool false) := cell_later hb (by simp [go_sem])
    have r3 : w1.cell? ⟨w.heap.size + 1 + 1 + 1, 1, none⟩ = some (.slice none 0 0) := cell_later hb (by simp [go_sem])
    have f0 : ∀ o, w1.frozen? ⟨w.heap.size + 1 + 1, o, none⟩ = false := fun o => frozen_later hb (by simp) (by simp [go_sem])
    have f1 : ∀ o, w1.frozen? ⟨w.heap.size + 1 + 1 + 1, o, none⟩ = false := fun o => frozen_later hb (by simp) (by simp [go_sem])
    have s1 : w.heap.size + 1 + 1 + 1 + 1 ≤ w1.heap.size := by have := hb.size; simp at this; omega
    have HB := hide (below_on (unhide B0) hb)
    clear hb
    go_wp2
    exact bodyPost_ret (v := .tuple #[.agg #[.bool false, .slice none 0 0], .agg #[.bool false, .slice none 0 0], .bool false]) (by simp [results, Try.results13, go_sem, r0, r1, r2, r3]) rfl (retD_fin (v := ⟨⟨false, none, 0, 0⟩, ⟨false, none, 0, 0⟩⟩) (d := ⟨⟨false, []⟩, ⟨false, []⟩⟩) (R := w.heap.size + 1 + 1) (by omega) (unhide HB) (zeroQ _ _ _) AnsD.no)
  · cases hg2 : goodB d'.g d'.xs
    · have C1 := hide (fun w1 (k : Sl w1 b.a d.xs) => goodS_any b.g b.a b.n b.c d.xs w1 k (unhide HX).ar.len (Nat.le_trans (unhide HX).ar.cap (unhide HX).ar.top))
      rw [(unhide HX).sg, hg1, ← (unhide HX).sg] at C1
      have C2 := hide (fun w1 (k : Sl w1 b'.a d'.xs) => goodS_any b'.g b'.a b'.n b'.c d'.xs w1 k (unhide HY).ar.len (Nat.le_trans (unhide HY).ar.cap (unhide HY).ar.top))
      rw [(unhide HY).sg, hg2, ← (unhide HY).sg] at C2
      have B0 := hide (show Below w.heap.size w ((((w.alloc (.cells #[.bool b.g, .slice b.a b.n b.c] 25)).alloc (.cells #[.bool b'.g, .slice b'.a b'.n b'.c] 25)).alloc (.cells #[.bool false, .slice none 0 0] 25)).alloc (.cells #[.bool false, .slice none 0 0] 25)) from (((((Below.refl _ _).alloc (by simp) _).alloc (by simp) _).alloc (by simp <;> omega) _).alloc (by simp <;> omega) _))
      have hp : pD d d' = false := by unfold pD; rw [hg1, hg2]; rfl
      rw [hp]
      go_enter Try.func13, Try.ntmps13
      go_wp2_with fail
      refine (unhide C1 _ ((unhide HX).ar.later (unhide B0)).sl).mono ?_
      rintro e w1 ⟨rfl, hb⟩
      have r0 : w1.cell? ⟨w.heap.size + 1 + 1, 0, none⟩ = some (.bool false) := cell_later hb (by simp [go_sem])
      have r1 : w1.cell? ⟨w.heap.size + 1 + 1, 1, none⟩ = some (.slice none 0 0) := cell_later hb (by simp [go_sem])
      have r2 : w1.cell? ⟨w.heap.size + 1 + 1 + 1, 0, none⟩ = some (.bool false) := cell_later hb (by simp [go_sem])
      have r3 : w1.cell? ⟨w.heap.size + 1 + 1 + 1, 1, none⟩ = some (.slice none 0 0) := cell_later hb (by simp [go_sem])
      have cy0 : w1.cell? ⟨w.heap.size + 1, 0, none⟩ = some (.bool b'.g) := cell_later hb (by simp [go_sem])
      have cy1 : w1.cell? ⟨w.heap.size + 1, 1, none⟩ = some (.slice b'.a b'.n b'.c) := cell_later hb (by simp [go_sem])
      have f0 : ∀ o, w1.frozen? ⟨w.heap.size + 1 + 1, o, none⟩ = false := fun o => frozen_later hb (by simp) (by simp [go_sem])
      have f1 : ∀ o, w1.frozen? ⟨w.heap.size + 1 + 1 + 1, o, none⟩ = false := fun o => frozen_later hb (by simp) (by simp [go_sem])
      have s1 : w.heap.size + 1 + 1 + 1 + 1 ≤ w1.heap.size := by have := hb.size; simp at this; omega
      have HB := hide (below_on (unhide B0) hb)
      clear hb
      go_wp2_with fail
      refine (unhide C2 _ ((unhide HY).ar.later (unhide HB)).sl).mono ?_
      rintro e w2 ⟨rfl, hb⟩
      replace r0 := cell_later hb r0
      replace r1 := cell_later hb r1
      replace r2 := cell_later hb r2
      replace r3 := cell_later hb r3
      replace f0 : ∀ o, w2.frozen? ⟨w.heap.size + 1 + 1, o, none⟩ = false := fun o => frozen_later hb (by omega) (f0 o)
      replace f1 : ∀ o, w2.frozen? ⟨w.heap.size + 1 + 1 + 1, o, none⟩ = false := fun o => frozen_later hb (by omega) (f1 o)
      replace s1 : w.heap.size + 1 + 1 + 1 + 1 ≤ w2.heap.size := Nat.le_trans s1 hb.size
      replace HB := hide (below_on (unhide HB) hb)
      clear hb
      clear cy0 cy1
      go_wp2
      exact bodyPost_ret (v := .tuple #[.agg #[.bool false, .slice none 0 0], .agg #[.bool false, .slice none 0 0], .bool false]) (by simp [results, Try.results13, go_sem, r0, r1, r2, r3]) rfl (retD_fin (v := ⟨⟨false, none, 0, 0⟩, ⟨false, none, 0, 0⟩⟩) (d := ⟨⟨false, []⟩, ⟨false, []⟩⟩) (R := w.heap.size + 1 + 1) (by omega) (unhide HB) (zeroQ _ _ _) AnsD.no)
    · by_cases h0 : d'.xs.length = 0
      · have C1 := hide (fun w1 (k : Sl w1 b.a d.xs) => goodS_any b.g b.a b.n b.c d.xs w1 k (unhide HX).ar.len (Nat.le_trans (unhide HX).ar.cap (unhide HX).ar.top))
        rw [(unhide HX).sg, hg1, ← (unhide HX).sg] at C1
        have C2 := hide (fun w1 (k : Sl w1 b'.a d'.xs) => goodS_any b'.g b'.a b'.n b'.c d'.xs w1 k (unhide HY).ar.len (Nat.le_trans (unhide HY).ar.cap (unhide HY).ar.top))
        rw [(unhide HY).sg, hg2, ← (unhide HY).sg] at C2
        have B0 := hide (show Below w.heap.size w ((((w.alloc (.cells #[.bool b.g, .slice b.a b.n b.c] 25)).alloc (.cells #[.bool b'.g, .slice b'.a b'.n b'.c] 25)).alloc (.cells #[.bool false, .slice none 0 0] 25)).alloc (.cells #[.bool false, .slice none 0 0] 25)) from (((((Below.refl _ _).alloc (by simp) _).alloc (by simp) _).alloc (by simp <;> omega) _).alloc (by simp <;> omega) _))
        have hp : pD d d' = false := by unfold pD; rw [hg1, hg2, h0]; rfl
        rw [hp]
        have HN : Hid (b'.n = 0) := hide (by have := (unhide HY).ar.len; omega)
        clear h0
        go_enter Try.func13, Try.ntmps13
        go_wp2_with fail
        refine (unhide C1 _ ((unhide HX).ar.later (unhide B0)).sl).mono ?_
        rintro e w1 ⟨rfl, hb⟩
        have r0 : w1.cell? ⟨w.heap.size + 1 + 1, 0, none⟩ = some (.bool false) := cell_later hb (by simp [go_sem])
        have r1 : w1.cell? ⟨w.heap.size + 1 + 1, 1, none⟩ = some (.slice none 0 0) := cell_later hb (by simp [go_sem])
        have r2 : w1.cell? ⟨w.heap.size + 1 + 1 + 1, 0, none⟩ = some (.bool false) := cell_later hb (by simp [go_sem])
        have r3 : w1.cell? ⟨w.heap.size + 1 + 1 + 1, 1, none⟩ = some (.slice none 0 0) := cell_later hb (by simp [go_sem])
        have cy0 : w1.cell? ⟨w.heap.size + 1, 0, none⟩ = some (.bool b'.g) := cell_later hb (by simp [go_sem])
        have cy1 : w1.cell? ⟨w.heap.size + 1, 1, none⟩ = some (.slice b'.a b'.n b'.c) := cell_later hb (by simp [go_sem])
        have f0 : ∀ o, w1.frozen? ⟨w.heap.size + 1 + 1, o, none⟩ = false := fun o => frozen_later hb (by simp) (by simp [go_sem])
        have f1 : ∀ o, w1.frozen? ⟨w.heap.size + 1 + 1 + 1, o, none⟩ = false := fun o => frozen_later hb (by simp) (by simp [go_sem])
        have s1 : w.heap.size + 1 + 1 + 1 + 1 ≤ w1.heap.size := by have := hb.size; simp at this; omega
        have HB := hide (below_on (unhide B0) hb)
        clear hb
        go_wp2_with fail
        refine (unhide C2 _ ((unhide HY).ar.later (unhide HB)).sl).mono ?_
        rintro e w2 ⟨rfl, hb⟩
        replace r0 := cell_later hb r0
        replace r1 := cell_later hb r1
        replace r2 := cell_later hb r2
        replace r3 := cell_later hb r3
        replace cy0 := cell_later hb cy0
        replace cy1 := cell_later hb cy1
        replace f0 : ∀ o, w2.frozen? ⟨w.heap.size + 1 + 1, o, none⟩ = false := fun o => frozen_later hb (by omega) (f0 o)
        replace f1 : ∀ o, w2.frozen? ⟨w.heap.size + 1 + 1 + 1, o, none⟩ = false := fun o => frozen_later hb (by omega) (f1 o)
        replace s1 : w.heap.size + 1 + 1 + 1 + 1 ≤ w2.heap.size := Nat.le_trans s1 hb.size
        replace HB := hide (below_on (unhide HB) hb)
        clear hb
        have hn0 : ((b'.n : Nat) : Int) = 0 := by have := unhide HN; omega
        go_wp2
        exact bodyPost_ret (v := .tuple #[.agg #[.bool false, .slice none 0 0], .agg #[.bool false, .slice none 0 0], .bool false]) (by simp [results, Try.results13, go_sem, r0, r1, r2, r3]) rfl (retD_fin (v := ⟨⟨false, none, 0, 0⟩, ⟨false, none, 0, 0⟩⟩) (d := ⟨⟨false, []⟩, ⟨false, []⟩⟩) (R := w.heap.size + 1 + 1) (by omega) (unhide HB) (zeroQ _ _ _) AnsD.no)
      · have NX := hide (good_parts hg1)
        have NY := hide (good_parts hg2)
        have GG := hide (And.intro hg1 hg2)
        have LX : Hid (b.n ≤ 40 ∧ b'.n ≤ 40 ∧ 1 ≤ b'.n) := hide (by have := (good_parts hg1).2.2.1; have := (good_parts hg2).2.2.1; have := (unhide HX).ar.len; have := (unhide HY).ar.len; omega)
        have C1 := hide (fun w1 (k : Sl w1 b.a d.xs) => goodS_any b.g b.a b.n b.c d.xs w1 k (unhide HX).ar.len (Nat.le_trans (unhide HX).ar.cap (unhide HX).ar.top))
        rw [(unhide HX).sg, hg1, ← (unhide HX).sg] at C1
        have C2 := hide (fun w1 (k : Sl w1 b'.a d'.xs) => goodS_any b'.g b'.a b'.n b'.c d'.xs w1 k (unhide HY).ar.len (Nat.le_trans (unhide HY).ar.cap (unhide HY).ar.top))
        rw [(unhide HY).sg, hg2, ← (unhide HY).sg] at C2
        have B0 := hide (show Below w.heap.size w ((((w.alloc (.cells #[.bool b.g, .slice b.a b.n b.c] 25)).alloc (.cells #[.bool b'.g, .slice b'.a b'.n b'.c] 25)).alloc (.cells #[.bool false, .slice none 0 0] 25)).alloc (.cells #[.bool false, .slice none 0 0] 25)) from (((((Below.refl _ _).alloc (by simp) _).alloc (by simp) _).alloc (by simp <;> omega) _).alloc (by simp <;> omega) _))
        have hn : ¬ ((b'.n : Int) = 0) := by have := (unhide HY).ar.len; omega
        have CD := hide (fun w1 (k : AllAr w1 [(b, d)]) (k' : AllAr w1 [(b', d')]) => l1DivD b b' d d' w1 k k' hg1 hg2 h0)
        have H0 := hide h0
        clear hg1 hg2 h0
        go_enter Try.func13, Try.ntmps13
        go_wp2_with fail
        refine (unhide C1 _ ((unhide HX).ar.later (unhide B0)).sl).mono ?_
        rintro e w1 ⟨rfl, hb⟩
        have r0 : w1.cell? ⟨w.heap.size + 1 + 1, 0, none⟩ = some (.bool false) := cell_later hb (by simp [go_sem])
        have r1 : w1.cell? ⟨w.heap.size + 1 + 1, 1, none⟩ = some (.slice none 0 0) := cell_later hb (by simp [go_sem])
        have r2 : w1.cell? ⟨w.heap.size + 1 + 1 + 1, 0, none⟩ = some (.bool false) := cell_later hb (by simp [go_sem])
        have r3 : w1.cell? ⟨w.heap.size + 1 + 1 + 1, 1, none⟩ = some (.slice none 0 0) := cell_later hb (by simp [go_sem])
        have cx0 : w1.cell? ⟨w.heap.size, 0, none⟩ = some (.bool b.g) := cell_later hb (by simp [go_sem])
        have cx1 : w1.cell? ⟨w.heap.size, 1, none⟩ = some (.slice b.a b.n b.c) := cell_later hb (by simp [go_sem])
        have cy0 : w1.cell? ⟨w.heap.size + 1, 0, none⟩ = some (.bool b'.g) := cell_later hb (by simp [go_sem])
        have cy1 : w1.cell? ⟨w.heap.size + 1, 1, none⟩ = some (.slice b'.a b'.n b'.c) := cell_later hb (by simp [go_sem])
        have f0 : ∀ o, w1.frozen? ⟨w.heap.size + 1 + 1, o, none⟩ = false := fun o => frozen_later hb (by simp) (by simp [go_sem])
        have f1 : ∀ o, w1.frozen? ⟨w.heap.size + 1 + 1 + 1, o, none⟩ = false := fun o => frozen_later hb (by simp) (by simp [go_sem])
        have s1 : w.heap.size + 1 + 1 + 1 + 1 ≤ w1.heap.size := by have := hb.size; simp at this; omega
        have HB := hide (below_on (unhide B0) hb)
        clear hb
        go_wp2_with fail
        refine (unhide C2 _ ((unhide HY).ar.later (unhide HB)).sl).mono ?_
        rintro e w2 ⟨rfl, hb⟩
        replace r0 := cell_later hb r0
        replace r1 := cell_later hb r1
        replace r2 := cell_later hb r2
        replace r3 := cell_later hb r3
        replace cx0 := cell_later hb cx0
        replace cx1 := cell_later hb cx1
        replace cy0 := cell_later hb cy0
        replace cy1 := cell_later hb cy1
        replace f0 : ∀ o, w2.frozen? ⟨w.heap.size + 1 + 1, o, none⟩ = false := fun o => frozen_later hb (by omega) (f0 o)
        replace f1 : ∀ o, w2.frozen? ⟨w.heap.size + 1 + 1 + 1, o, none⟩ = false := fun o => frozen_later hb (by omega) (f1 o)
        replace s1 : w.heap.size + 1 + 1 + 1 + 1 ≤ w2.heap.size := Nat.le_trans s1 hb.size
        replace HB := hide (below_on (unhide HB) hb)
        clear hb
        go_wp2_with fail
        refine (unhide CD _ (AllAr.cons ((unhide HX).later (unhide HB)) (AllAr.nil _)) (AllAr.cons ((unhide HY).later (unhide HB)) (AllAr.nil _))).mono ?_
        rintro e w3 ⟨x1, x2, zs, rs, rfl, hb, how, hz, hr⟩
        have OW := hide (how.wide (lo' := w.heap.size + 1 + 1 + 1 + 1) (by omega) (Nat.le_refl _))
        have NN := hide (And.intro hz hr)
        clear how hz hr
        replace r0 := cell_later hb r0
        replace r1 := cell_later hb r1
        replace r2 := cell_later hb r2
        replace r3 := cell_later hb r3
        replace f0 : ∀ o, w3.frozen? ⟨w.heap.size + 1 + 1, o, none⟩ = false := fun o => frozen_later hb (by omega) (f0 o)
        replace f1 : ∀ o, w3.frozen? ⟨w.heap.size + 1 + 1 + 1, o, none⟩ = false := fun o => frozen_later hb (by omega) (f1 o)
        replace s1 : w.heap.size + 1 + 1 + 1 + 1 ≤ w3.heap.size := Nat.le_trans s1 hb.size
        replace HB := hide (below_on (unhide HB) hb)
        clear hb
        go_upto_region 4 with fail
        have hb : Below w3.heap.size w3 ((w3.alloc (.cells #[.bool x1.g, .slice x1.a x1.n x1.c] 25)).alloc (.cells #[.bool x2.g, .slice x2.a x2.n x2.c] 25)) := (((Below.refl _ _).alloc (by simp) _).alloc (by simp) _)
        have e0 : ((w3.alloc (.cells #[.bool x1.g, .slice x1.a x1.n x1.c] 25)).alloc (.cells #[.bool x2.g, .slice x2.a x2.n x2.c] 25)).cell? ⟨w3.heap.size, 0, none⟩ = some (.bool x1.g) := by simp [go_sem]
        have e1 : ((w3.alloc (.cells #[.bool x1.g, .slice x1.a x1.n x1.c] 25)).alloc (.cells #[.bool x2.g, .slice x2.a x2.n x2.c] 25)).cell? ⟨w3.heap.size, 1, none⟩ = some (.slice x1.a x1.n x1.c) := by simp [go_sem]
        have e2 : ((w3.alloc (.cells #[.bool x1.g, .slice x1.a x1.n x1.c] 25)).alloc (.cells #[.bool x2.g, .slice x2.a x2.n x2.c] 25)).cell? ⟨w3.heap.size + 1, 0, none⟩ = some (.bool x2.g) := by simp [go_sem]
        have e3 : ((w3.alloc (.cells #[.bool x1.g, .slice x1.a x1.n x1.c] 25)).alloc (.cells #[.bool x2.g, .slice x2.a x2.n x2.c] 25)).cell? ⟨w3.heap.size + 1, 1, none⟩ = some (.slice x2.a x2.n x2.c) := by simp [go_sem]
        have OW2 := hide (((unhide OW).later hb).wide (Nat.le_refl _) hb.size)
        clear OW
        have ne1 : w3.heap.size ≠ w.heap.size + 1 + 1 := by omega
        have ne2 : w3.heap.size + 1 ≠ w.heap.size + 1 + 1 := by omega
        have ne3 : w3.heap.size ≠ w.heap.size + 1 + 1 + 1 := by omega
        have ne4 : w3.heap.size + 1 ≠ w.heap.size + 1 + 1 + 1 := by omega
        replace r0 := cell_later hb r0
        replace r1 := cell_later hb r1
        replace r2 := cell_later hb r2
        replace r3 := cell_later hb r3
        replace f0 : ∀ o, ((w3.alloc (.cells #[.bool x1.g, .slice x1.a x1.n x1.c] 25)).alloc (.cells #[.bool x2.g, .slice x2.a x2.n x2.c] 25)).frozen? ⟨w.heap.size + 1 + 1, o, none⟩ = false := fun o => frozen_later hb (by omega) (f0 o)
        replace f1 : ∀ o, ((w3.alloc (.cells #[.bool x1.g, .slice x1.a x1.n x1.c] 25)).alloc (.cells #[.bool x2.g, .slice x2.a x2.n x2.c] 25)).frozen? ⟨w.heap.size + 1 + 1 + 1, o, none⟩ = false := fun o => frozen_later hb (by omega) (f1 o)
        replace s1 : w.heap.size + 1 + 1 + 1 + 1 ≤ ((w3.alloc (.cells #[.bool x1.g, .slice x1.a x1.n x1.c] 25)).alloc (.cells #[.bool x2.g, .slice x2.a x2.n x2.c] 25)).heap.size := Nat.le_trans s1 hb.size
        replace HB := hide (below_on (unhide HB) hb)
        clear hb
        generalize ((w3.alloc (.cells #[.bool x1.g, .slice x1.a x1.n x1.c] 25)).alloc (.cells #[.bool x2.g, .slice x2.a x2.n x2.c] 25)) = w4 at *
        generalize w3.heap.size = G4 at *
        go_region_held3 (fun w' => w'.cell? ⟨G4, 0, none⟩ = some (.bool x1.g) ∧ w'.cell? ⟨G4, 1, none⟩ = some (.slice x1.a x1.n x1.c) ∧ w'.cell? ⟨G4 + 1, 0, none⟩ = some (.bool x2.g) ∧ w'.cell? ⟨G4 + 1, 1, none⟩ = some (.slice x2.a x2.n x2.c)) (with_reducible (first | exact ⟨e0, e1, e2, e3⟩ | exact ⟨cd_other e0, cd_other e1, cd_other e2, cd_other e3⟩ | exact ⟨cd_other (cs_other (cs_other (e0) ne1) ne1), cd_other (cs_other (cs_other (e1) ne1) ne1), cd_other (cs_other (cs_other (e2) ne2) ne2), cd_other (cs_other (cs_other (e3) ne2) ne2)⟩ | exact ⟨cd_other (cs_other (cs_other (cs_other (cs_other (e0) ne1) ne1) ne3) ne3), cd_other (cs_other (cs_other (cs_other (cs_other (e1) ne1) ne1) ne3) ne3), cd_other (cs_other (cs_other (cs_other (cs_other (e2) ne2) ne2) ne4) ne4), cd_other (cs_other (cs_other (cs_other (cs_other (e3) ne2) ne2) ne4) ne4)⟩ | fail)) (fail)
        all_goals go_wp2
        all_goals exact bodyPost_ret (v := .tuple #[.agg #[.bool x1.g, .slice x1.a x1.n x1.c], .agg #[.bool x2.g, .slice x2.a x2.n x2.c], .bool true]) (by simp [results, Try.results13, go_sem, r0, r1, r2, r3]) rfl (RetD.drew (retD_fin (v := ⟨x1, x2⟩) (d := ⟨⟨decide (qD d d' < 0), zs⟩, ⟨decide (rD d d' < 0), rs⟩⟩) (R := w.heap.size + 1 + 1) (by omega) (unhide HB) (unhide OW2) (ansD_yes (unhide GG).1 (unhide GG).2 (unhide H0) (unhide NN).1 (unhide NN).2)))

set_option maxHeartbeats 4000000 in
theorem DivI_a (b b' : BV) (d d' : BD) (w : World) (h : AllAr w [(b, d)]) (h' : AllAr w [(b', d')]) : Calls Try.prog 12 #[.agg #[.bool b.g, .slice b.a b.n b.c], .agg #[.bool b'.g, .slice b'.a b'.n b'.c]] w (RetD w (AnsD (pD d d') (qD d d') (rD d d'))) := by
  have HX := hide h.head
  have HY := hide h'.head
  clear h h'
  cases hP : (goodB d.g d.xs && goodB d'.g d'.xs)
  · have C1 := hide (fun w1 (k : Sl w1 b.a d.xs) (k' : Sl w1 b'.a d'.xs) => pair_any b.g b'.g b.a b'.a b.n b'.n b.c b'.c d.xs d'.xs w1 k k' (unhide HX).ar.len (unhide HY).ar.len (Nat.le_trans (unhide HX).ar.cap (unhide HX).ar.top) (Nat.le_trans (unhide HY).ar.cap (unhide HY).ar.top))
    rw [(unhide HX).sg, (unhide HY).sg, hP, ← (unhide HX).sg, ← (unhide HY).sg] at C1
    have B0 := hide (show Below w.heap.size w ((((w.alloc (.cells #[.bool b.g, .slice b.a b.n b.c] 25)).alloc (.cells #[.bool b'.g, .slice b'.a b'.n b'.c] 25)).alloc (.cells #[.bool false, .slice none 0 0] 25)).alloc (.cells #[.bool false, .slice none 0 0] 25)) from (((((Below.refl _ _).alloc (by simp) _).alloc (by simp) _).alloc (by simp <;> omega) _).alloc (by simp <;> omega) _))
    have hp : pD d d' = false := by unfold pD; rw [hP]; rfl
    rw [hp]
    go_enter Try.func12, Try.ntmps12
    go_wp2_with fail
    refine (unhide C1 _ ((unhide HX).ar.later (unhide B0)).sl ((unhide HY).ar.later (unhide B0)).sl).mono ?_
    rintro e w1 ⟨rfl, hb⟩
    have r0 : w1.cell? ⟨w.heap.size + 1 + 1, 0, none⟩ = some (.bool false) := cell_later hb (by simp [go_sem])
    have r1 : w1.cell? ⟨w.heap.size + 1 + 1, 1, none⟩ = some (.slice none 0 0) := cell_later hb (by simp [go_sem])
    have r2 : w1.cell? ⟨w.heap.size + 1 + 1 + 1, 0, none⟩ = some (.bool false) := cell_later hb (by simp [go_sem])
    have r3 : w1.cell? ⟨w.heap.size + 1 + 1 + 1, 1, none⟩ = some (.slice none 0 0) := cell_later hb (by simp [go_sem])
    have f0 : ∀ o, w1.frozen? ⟨w.heap.size + 1 + 1, o, none⟩ = false := fun o => frozen_later hb (by simp) (by simp [go_sem])
    have f1 : ∀ o, w1.frozen? ⟨w.heap.size + 1 + 1 + 1, o, none⟩ = false := fun o => frozen_later hb (by simp) (by simp [go_sem])
    have s1 : w.heap.size + 1 + 1 + 1 + 1 ≤ w1.heap.size := by have := hb.size; simp at this; omega
    have HB := hide (below_on (unhide B0) hb)
    clear hb
    go_wp2
    exact bodyPost_ret (v := .tuple #[.agg #[.bool false, .slice none 0 0], .agg #[.bool false, .slice none 0 0], .bool false]) (by simp [results, Try.results12, go_sem, r0, r1, r2, r3]) rfl (retD_fin (v := ⟨⟨false, none, 0, 0⟩, ⟨false, none, 0, 0⟩⟩) (d := ⟨⟨false, []⟩, ⟨false, []⟩⟩) (R := w.heap.size + 1 + 1) (by omega) (unhide HB) (zeroQ _ _ _) AnsD.no)
  · by_cases h0 : d'.xs.length = 0
    · have C1 := hide (fun w1 (k : Sl w1 b.a d.xs) (k' : Sl w1 b'.a d'.xs) => pair_any b.g b'.g b.a b'.a b.n b'.n b.c b'.c d.xs d'.xs w1 k k' (unhide HX).ar.len (unhide HY).ar.len (Nat.le_trans (unhide HX).ar.cap (unhide HX).ar.top) (Nat.le_trans (unhide HY).ar.cap (unhide HY).ar.top))
      rw [(unhide HX).sg, (unhide HY).sg, hP, ← (unhide HX).sg, ← (unhide HY).sg] at C1
      have B0 := hide (show Below w.heap.size w ((((w.alloc (.cells #[.bool b.g, .slice b.a b.n b.c] 25)).alloc (.cells #[.bool b'.g, .slice b'.a b'.n b'.c] 25)).alloc (.cells #[.bool false, .slice none 0 0] 25)).alloc (.cells #[.bool false, .slice none 0 0] 25)) from (((((Below.refl _ _).alloc (by simp) _).alloc (by simp) _).alloc (by simp <;> omega) _).alloc (by simp <;> omega) _))
      have hp : pD d d' = false := by unfold pD; rw [hP, h0]; rfl
      rw [hp]
      have HN : Hid (b'.n = 0) := hide (by have := (unhide HY).ar.len; omega)
      clear h0
      go_enter Try.func12, Try.ntmps12
      go_wp2_with fail
      refine (unhide C1 _ ((unhide HX).ar.later (unhide B0)).sl ((unhide HY).ar.later (unhide B0)).sl).mono ?_
      rintro e w1 ⟨rfl, hb⟩
      have r0 : w1.cell? ⟨w.heap.size + 1 + 1, 0, none⟩ = some (.bool false) := cell_later hb (by simp [go_sem])
      have r1 : w1.cell? ⟨w.heap.size + 1 + 1, 1, none⟩ = some (.slice none 0 0) := cell_later hb (by simp [go_sem])
      have r2 : w1.cell? ⟨w.heap.size + 1 + 1 + 1, 0, none⟩ = some (.bool false) := cell_later hb (by simp [go_sem])
      have r3 : w1.cell? ⟨w.heap.size + 1 + 1 + 1, 1, none⟩ = some (.slice none 0 0) := cell_later hb (by simp [go_sem])
      have cy0 : w1.cell? ⟨w.heap.size + 1, 0, none⟩ = some (.bool b'.g) := cell_later hb (by simp [go_sem])
      have cy1 : w1.cell? ⟨w.heap.size + 1, 1, none⟩ = some (.slice b'.a b'.n b'.c) := cell_later hb (by simp [go_sem])
      have f0 : ∀ o, w1.frozen? ⟨w.heap.size + 1 + 1, o, none⟩ = false := fun o => frozen_later hb (by simp) (by simp [go_sem])
      have f1 : ∀ o, w1.frozen? ⟨w.heap.size + 1 + 1 + 1, o, none⟩ = false := fun o => frozen_later hb (by simp) (by simp [go_sem])
      have s1 : w.heap.size + 1 + 1 + 1 + 1 ≤ w1.heap.size := by have := hb.size; simp at this; omega
      have HB := hide (below_on (unhide B0) hb)
      clear hb
      have hn0 : ((b'.n : Nat) : Int) = 0 := by have := unhide HN; omega
      go_wp2
      exact bodyPost_ret (v := .tuple #[.agg #[.bool false, .slice none 0 0], .agg #[.bool false, .slice none 0 0], .bool false]) (by simp [results, Try.results12, go_sem, r0, r1, r2, r3]) rfl (retD_fin (v := ⟨⟨false, none, 0, 0⟩, ⟨false, none, 0, 0⟩⟩) (d := ⟨⟨false, []⟩, ⟨false, []⟩⟩) (R := w.heap.size + 1 + 1) (by omega) (unhide HB) (zeroQ _ _ _) AnsD.no)
    · have hg1 : goodB d.g d.xs = true := by revert hP; cases goodB d.g d.xs <;> simp
      have hg2 : goodB d'.g d'.xs = true := by revert hP; cases goodB d'.g d'.xs <;> simp
      have NX := hide (good_parts hg1)
      have NY := hide (good_parts hg2)
      have GG := hide (And.intro hg1 hg2)
      have LX : Hid (b.n ≤ 40 ∧ b'.n ≤ 40 ∧ 1 ≤ b'.n) := hide (by have := (good_parts hg1).2.2.1; have := (good_parts hg2).2.2.1; have := (unhide HX).ar.len; have := (unhide HY).ar.len; omega)
      have C1 := hide (fun w1 (k : Sl w1 b.a d.xs) (k' : Sl w1 b'.a d'.xs) => pair_any b.g b'.g b.a b'.a b.n b'.n b.c b'.c d.xs d'.xs w1 k k' (unhide HX).ar.len (unhide HY).ar.len (Nat.le_trans (unhide HX).ar.cap (unhide HX).ar.top) (Nat.le_trans (unhide HY).ar.cap (unhide HY).ar.top))
      rw [(unhide HX).sg, (unhide HY).sg, hP, ← (unhide HX).sg, ← (unhide HY).sg] at C1
      have B0 := hide (show Below w.heap.size w ((((w.alloc (.cells #[.bool b.g, .slice b.a b.n b.c] 25)).alloc (.cells #[.bool b'.g, .slice b'.a b'.n b'.c] 25)).alloc (.cells #[.bool false, .slice none 0 0] 25)).alloc (.cells #[.bool false, .slice none 0 0] 25)) from (((((Below.refl _ _).alloc (by simp) _).alloc (by simp) _).alloc (by simp <;> omega) _).alloc (by simp <;> omega) _))
      have SX := hide (And.intro (unhide HX).sg (unhide HY).sg)
      have YP := hide (val_pos_of (unhide NY).1 (unhide NY).2.1 h0)
      have hn : ¬ ((b'.n : Int) = 0) := by have := (unhide HY).ar.len; omega
      have H0 := hide h0
      clear hg1 hg2 h0 hP
      go_enter Try.func12, Try.ntmps12
      go_wp2_with fail
      refine (unhide C1 _ ((unhide HX).ar.later (unhide B0)).sl ((unhide HY).ar.later (unhide B0)).sl).mono ?_
      rintro e w1 ⟨rfl, hb⟩
      have r0 : w1.cell? ⟨w.heap.size + 1 + 1, 0, none⟩ = some (.bool false) := cell_later hb (by simp [go_sem])
      have r1 : w1.cell? ⟨w.heap.size + 1 + 1, 1, none⟩ = some (.slice none 0 0) := cell_later hb (by simp [go_sem])
      have r2 : w1.cell? ⟨w.heap.size + 1 + 1 + 1, 0, none⟩ = some (.bool false) := cell_later hb (by simp [go_sem])
      have r3 : w1.cell? ⟨w.heap.size + 1 + 1 + 1, 1, none⟩ = some (.slice none 0 0) := cell_later hb (by simp [go_sem])
      have cx0 : w1.cell? ⟨w.heap.size, 0, none⟩ = some (.bool b.g) := cell_later hb (by simp [go_sem])
      have cx1 : w1.cell? ⟨w.heap.size, 1, none⟩ = some (.slice b.a b.n b.c) := cell_later hb (by simp [go_sem])
      have cy0 : w1.cell? ⟨w.heap.size + 1, 0, none⟩ = some (.bool b'.g) := cell_later hb (by simp [go_sem])
      have cy1 : w1.cell? ⟨w.heap.size + 1, 1, none⟩ = some (.slice b'.a b'.n b'.c) := cell_later hb (by simp [go_sem])
      have f0 : ∀ o, w1.frozen? ⟨w.heap.size + 1 + 1, o, none⟩ = false := fun o => frozen_later hb (by simp) (by simp [go_sem])
      have f1 : ∀ o, w1.frozen? ⟨w.heap.size + 1 + 1 + 1, o, none⟩ = false := fun o => frozen_later hb (by simp) (by simp [go_sem])
      have s1 : w.heap.size + 1 + 1 + 1 + 1 ≤ w1.heap.size := by have := hb.size; simp at this; omega
      have HB := hide (below_on (unhide B0) hb)
      clear hb
      go_wp2_with fail
      refine (divI_any b.a b'.a b.n b'.n b.c b'.c d.xs d'.xs _ ((unhide HX).ar.later (unhide HB)) ((unhide HY).ar.later (unhide HB)) (unhide NX).1 (unhide NX).2.1 (unhide NY).1 (unhide NY).2.1 (unhide LX).2.2 (by have := unhide LX; omega) (by have := unhide LX; omega)).mono ?_
      rintro e w2 ⟨a2, n2, c2, zs, a3, n3, c3, rs, rfl, hb, ho2, ha2, hn2, ho3, ha3, hn3, hap⟩
      have hmid := mid_of ho2 ho3 hap hb.size
      obtain ⟨mid, m1, m2, om1, om2⟩ := hmid
      have N2 := hide hn2
      have N3 := hide hn3
      have A2 := hide (ha2)
      have A3 := hide (ha3)
      have O2 := hide (om1.wide (lo' := w.heap.size + 1 + 1 + 1 + 1) (by omega) (Nat.le_refl _))
      have O3 := hide om2
      have m1' : w.heap.size + 1 + 1 + 1 + 1 ≤ mid := Nat.le_trans s1 m1
      clear ho2 ha2 hn2 ho3 ha3 hn3 hap om1 om2 m1
      replace r0 := cell_later hb r0
      replace r1 := cell_later hb r1
      replace r2 := cell_later hb r2
      replace r3 := cell_later hb r3
      replace cx0 := cell_later hb cx0
      replace cy0 := cell_later hb cy0
      replace f0 : ∀ o, w2.frozen? ⟨w.heap.size + 1 + 1, o, none⟩ = false := fun o => frozen_later hb (by omega) (f0 o)
      replace f1 : ∀ o, w2.frozen? ⟨w.heap.size + 1 + 1 + 1, o, none⟩ = false := fun o => frozen_later hb (by omega) (f1 o)
      replace s1 : w.heap.size + 1 + 1 + 1 + 1 ≤ w2.heap.size := Nat.le_trans s1 hb.size
      replace HB := hide (below_on (unhide HB) hb)
      clear hb
      clear cx1 cy1
      have k0_0 := cx0
      have k1_0 := cy0
      have k2_0 := r0
      have k2_1 := r1
      have k3_0 := r2
      have k3_1 := r3
      have z2 := f0
      have z3 := f1
      clear cx0 cy0 r0 r1 r2 r3 f0 f1
      have ne : (w.heap.size ≠ w.heap.size + 1 + 1) ∧ (w.heap.size + 1 ≠ w.heap.size + 1 + 1) ∧ (w.heap.size ≠ w.heap.size + 1 + 1 + 1) ∧ (w.heap.size + 1 ≠ w.heap.size + 1 + 1 + 1) := by omega
      go_upto_region 4 with fail
      go_region_held3 (fun w' => w'.cell? ⟨w.heap.size, 0, none⟩ = some (.bool b.g) ∧ w'.cell? ⟨w.heap.size + 1, 0, none⟩ = some (.bool b'.g)) (with_reducible (first | exact ⟨k0_0, k1_0⟩ | exact ⟨cd_other k0_0, cd_other k1_0⟩ | exact ⟨j0, j1⟩ | exact ⟨i0, i1⟩ | exact ⟨cs_other (cs_other i0 ne.1) ne.1, cs_other (cs_other i1 ne.2.1) ne.2.1⟩ | exact ⟨cs_other (cs_other (cs_other (cs_other i0 ne.1) ne.1) ne.2.2.1) ne.2.2.1, cs_other (cs_other (cs_other (cs_other i1 ne.2.1) ne.2.1) ne.2.2.2) ne.2.2.2⟩ | fail))
        (first
        | (go_at_call_of 51 (Value.bool (!(b.g == b'.g))); refine (signI_v _ a2 n2 c2 zs _ (w.heap.size + 1 + 1 + 1 + 1) mid (val d.xs / val d'.xs) (?_) (?_) (unhide N2)).mono ?_; exact (unhide A2).drew; exact (unhide O2).later (Below.refl _ _).drew; rintro e w3 ⟨x1, rfl, hb', ow1, ar1⟩; have hb := below_of_drew hb'; have s3 := hb.size; have OW1 := hide ow1; have A3b := hide ((unhide A3).later hb); have O3b := hide ((unhide O3).later hb); have B3 := hide hb; have j0 := cell_later hb k0_0; have j1 := cell_later hb k1_0; have j2 := cell_later hb k2_0; have j3 := cell_later hb k2_1; have j4 := cell_later hb k3_0; have j5 := cell_later hb k3_1; have y2 := fun o => frozen_later hb (World.block_lt_of_cell? _ _ k2_0) (z2 o); have y3 := fun o => frozen_later hb (World.block_lt_of_cell? _ _ k3_0) (z3 o); clear ow1 ar1 hb hb')
        | (go_at_call_of 51 (Value.bool b.g); refine (signI_v _ a3 n3 c3 rs _ mid w2.heap.size (val d.xs % val d'.xs) (?_) (?_) (unhide N3)).mono ?_; exact unhide A3b; exact unhide O3b; rintro e w4 ⟨x2, rfl, hb, ow2, ar2⟩; have s4 := hb.size; have OW2 := hide ow2; have OW1b := hide ((unhide OW1).later hb); have B4 := hide hb; have i0 := cell_later hb j0; have i1 := cell_later hb j1; have i2 := cell_later hb j2; have i3 := cell_later hb j3; have i4 := cell_later hb j4; have i5 := cell_later hb j5; have u2 := fun o => frozen_later hb (World.block_lt_of_cell? _ _ j2) (y2 o); have u3 := fun o => frozen_later hb (World.block_lt_of_cell? _ _ j4) (y3 o); clear ow2 ar2 hb))
      all_goals
        have HB2 := hide (below_on (below_on (unhide HB) (unhide B3)) (unhide B4))
        go_wp2
        refine bodyPost_ret (v := .tuple #[.agg #[.bool x1.g, .slice x1.a x1.n x1.c], .agg #[.bool x2.g, .slice x2.a x2.n x2.c], .bool true]) (by simp [results, Try.results12, go_sem, i2, i3, i4, i5]) rfl ?_
        have a1 := unhide OW1b
        have a2' := unhide OW2
        rw [(unhide SX).1, (unhide SX).2] at a1
        rw [(unhide SX).1] at a2'
        exact retD_fin (v := ⟨x1, x2⟩) (d := ⟨⟨decide (qD d d' < 0), zs⟩, ⟨decide (rD d d' < 0), rs⟩⟩) (R := w.heap.size + 1 + 1) (by omega) (unhide HB2) ((a1.join a2' (by omega) (by omega)).wide (by omega) (by omega)) (ansD_yes (unhide GG).1 (unhide GG).2 (unhide H0) (unhide N2) (unhide N3))
end Go.Proofs.Ytagnhgefdcckoaa
namespace Go.Proofs.Ytagnhgefdcckoaa
open Go.RowKit
set_option linter.unusedVariables false
set_option maxRecDepth 100000
set_option linter.unusedSimpArgs false

theorem below_via {w w1 w2 : World} (h : Below w.heap.size w w1) (k : Below w1.heap.size w1 w2) : Below w.heap.size w w2 := h.trans (k.mono h.size)
def cmpOk (g : Bool) (xs : List Int) (g' : Bool) (ys : List Int) : Bool := goodB g xs && goodB g' ys
def cmpV (g : Bool) (xs : List Int) (g' : Bool) (ys : List Int) : Int := if cmpOk g xs g' ys then cmpB g xs g' ys else 0

set_option maxHeartbeats 1000000 in
theorem CompareI_any (g g' : Bool) (a a' : Option Addr) (n m c c' : Nat) (xs ys : List Int) (w : World) (hx : Sl w a xs) (hy : Sl w a' ys) (hn : xs.length = n) (hn' : ys.length = m) (hm : n ≤ maxLen) (hm' : m ≤ maxLen) :
    Calls Try.prog 19 #[.agg #[.bool g, .slice a n c], .agg #[.bool g', .slice a' m c']] w fun e w' => e = .returned (.tuple #[.int .i64 (cmpV g xs g' ys), .bool (cmpOk g xs g' ys)]) ∧ Below w.heap.size w w' := by
  have HX := hide hx
  have HY := hide hy
  have HN := hide hn
  have HN' := hide hn'
  clear hx hy hn hn'
  cases hg : cmpOk g xs g' ys
  · have hv : cmpV g xs g' ys = 0 := by simp [cmpV, hg]
    rw [hv]
    have hg' : (goodB g xs && goodB g' ys) = false := hg
    clear hg hv
    go_enter Try.func19, Try.ntmps19
    go_wp2_with fail
    refine (pair_any g g' a a' n m c c' xs ys _ ((unhide HX).later (Nat.le_refl _) (below_two _ _ _)) ((unhide HY).later (Nat.le_refl _) (below_two _ _ _)) (unhide HN) (unhide HN') hm hm').mono ?_
    rintro e w1 ⟨rfl, hb⟩
    rw [hg']
    go_wp2
    go_ret2
    exact ⟨rfl, below_two' hb⟩
  · have hv : cmpV g xs g' ys = cmpB g xs g' ys := by simp [cmpV, hg]
    rw [hv]
    have hg' : (goodB g xs && goodB g' ys) = true := hg
    clear hg hv
    go_enter Try.func19, Try.ntmps19
    go_wp2_with fail
    refine (pair_any g g' a a' n m c c' xs ys _ ((unhide HX).later (Nat.le_refl _) (below_two _ _ _)) ((unhide HY).later (Nat.le_refl _) (below_two _ _ _)) (unhide HN) (unhide HN') hm hm').mono ?_
    rintro e w1 ⟨rfl, hb⟩
    rw [hg']
    have x0 : w1.cell? ⟨w.heap.size, 0, none⟩ = some (.bool g) := cell_later hb (by simp [go_sem])
    have x1 : w1.cell? ⟨w.heap.size, 1, none⟩ = some (.slice a n c) := cell_later hb (by simp [go_sem])
    have y0 : w1.cell? ⟨w.heap.size + 1, 0, none⟩ = some (.bool g') := cell_later hb (by simp [go_sem])
    have y1 : w1.cell? ⟨w.heap.size + 1, 1, none⟩ = some (.slice a' m c') := cell_later hb (by simp [go_sem])
    have HB := hide (below_two' hb)
    clear hb hg'
    go_wp2_with fail
    refine (cmpBI_any g g' a a' n m c c' xs ys w1 ((unhide HX).later (Nat.le_refl _) (unhide HB)) ((unhide HY).later (Nat.le_refl _) (unhide HB)) (unhide HN) (unhide HN') hm hm').mono ?_
    rintro e w2 ⟨rfl, hb2⟩
    go_wp2
    go_ret2
    exact ⟨rfl, below_via (unhide HB) hb2⟩

end Go.Proofs.Ytagnhgefdcckoaa
namespace Go.Proofs.Ytagnhgefdcckoaa
open Go.RowKit
set_option linter.unusedVariables false
set_option maxRecDepth 100000
set_option linter.unusedSimpArgs false

set_option maxHeartbeats 1000000 in
theorem fitI_in (g : Bool) (a : Option Addr) (n c : Nat) (w : World) (h : n ≤ 40) :
    Calls Try.prog 46 #[.agg #[.bool g, .slice a n c]] w fun e w' => e = .returned (.tuple #[.agg #[.bool g, .slice a n c], .bool true]) ∧ Below w.heap.size w w' := by
  have h' : ¬ (40 : Int) < (n : Int) := by omega
  go_enter Try.func46, Try.ntmps46
  go_wp2
  exact bodyPost_ret (v := .tuple #[.agg #[.bool g, .slice a n c], .bool true]) (by simp [results, Try.results46, go_sem]) rfl ⟨rfl, below_two _ _ _⟩
set_option maxHeartbeats 1000000 in
theorem fitI_out (g : Bool) (a : Option Addr) (n c : Nat) (w : World) (h : 40 < n) :
    Calls Try.prog 46 #[.agg #[.bool g, .slice a n c]] w fun e w' => e = .returned (.tuple #[.agg #[.bool false, .slice none 0 0], .bool false]) ∧ Below w.heap.size w w' := by
  have h' : (40 : Int) < (n : Int) := by omega
  go_enter Try.func46, Try.ntmps46
  go_wp2
  exact bodyPost_ret (v := .tuple #[.agg #[.bool false, .slice none 0 0], .bool false]) (by simp [results, Try.results46, go_sem]) rfl ⟨rfl, below_two _ _ _⟩
/-- What a call answers that tells V, where it fits. -/
theorem fitI_any (V : Int) (a : Option Addr) (n c : Nat) (zs : List Int) (w : World) (base : Nat) (ho : Own base w a zs) (ha : Arg w a n c zs) (hn : Nm zs V.natAbs) :
    Calls Try.prog 46 #[.agg #[.bool (decide (V < 0)), .slice a n c]] w fun e w' => ∃ gr a2 n2 c2 ts ok, e = .returned (.tuple #[.agg #[.bool gr, .slice a2 n2 c2], .bool ok]) ∧ Below w.heap.size w w' ∧ Own base w' a2 ts ∧ Arg w' a2 n2 c2 ts ∧ Ans true V gr ts ok := by
  by_cases h : n ≤ 40
  · refine (fitI_in (decide (V < 0)) a n c w h).mono ?_
    rintro e w' ⟨rfl, hb⟩
    exact ⟨_, a, n, c, zs, true, rfl, hb, ho.later hb, ha.later hb, .inl ⟨rfl, zs, hn, .inl ⟨by rw [ha.len]; exact h, rfl, rfl, rfl⟩⟩⟩
  · refine (fitI_out (decide (V < 0)) a n c w (by omega)).mono ?_
    rintro e w' ⟨rfl, hb⟩
    exact ⟨false, none, 0, 0, [], false, rfl, hb, .inl rfl, Arg.none _, .inl ⟨rfl, zs, hn, .inr ⟨by rw [ha.len]; omega, rfl, rfl, rfl⟩⟩⟩

set_option maxHeartbeats 1000000 in
theorem fitS_in (g : Bool) (a : Option Addr) (n c : Nat) (w : World) (h : n ≤ 40) :
    Calls Try.prog 49 #[.agg #[.bool g, .slice a n c]] w fun e w' => e = .returned (.tuple #[.agg #[.bool g, .slice a n c], .bool true]) ∧ Below w.heap.size w w' := by
  have h' : ¬ (40 : Int) < (n : Int) := by omega
  go_enter Try.func49, Try.ntmps49
  go_wp2
  exact bodyPost_ret (v := .tuple #[.agg #[.bool g, .slice a n c], .bool true]) (by simp [results, Try.results49, go_sem]) rfl ⟨rfl, below_two _ _ _⟩
set_option maxHeartbeats 1000000 in
theorem fitS_out (g : Bool) (a : Option Addr) (n c : Nat) (w : World) (h : 40 < n) :
    Calls Try.prog 49 #[.agg #[.bool g, .slice a n c]] w fun e w' => e = .returned (.tuple #[.agg #[.bool false, .slice none 0 0], .bool false]) ∧ Below w.heap.size w w' := by
  have h' : (40 : Int) < (n : Int) := by omega
  go_enter Try.func49, Try.ntmps49
  go_wp2
  exact bodyPost_ret (v := .tuple #[.agg #[.bool false, .slice none 0 0], .bool false]) (by simp [results, Try.results49, go_sem]) rfl ⟨rfl, below_two _ _ _⟩
/-- What a call answers that tells V, where it fits. -/
theorem fitS_any (V : Int) (a : Option Addr) (n c : Nat) (zs : List Int) (w : World) (base : Nat) (ho : Own base w a zs) (ha : Arg w a n c zs) (hn : Nm zs V.natAbs) :
    Calls Try.prog 49 #[.agg #[.bool (decide (V < 0)), .slice a n c]] w fun e w' => ∃ gr a2 n2 c2 ts ok, e = .returned (.tuple #[.agg #[.bool gr, .slice a2 n2 c2], .bool ok]) ∧ Below w.heap.size w w' ∧ Own base w' a2 ts ∧ Arg w' a2 n2 c2 ts ∧ Ans true V gr ts ok := by
  by_cases h : n ≤ 40
  · refine (fitS_in (decide (V < 0)) a n c w h).mono ?_
    rintro e w' ⟨rfl, hb⟩
    exact ⟨_, a, n, c, zs, true, rfl, hb, ho.later hb, ha.later hb, .inl ⟨rfl, zs, hn, .inl ⟨by rw [ha.len]; exact h, rfl, rfl, rfl⟩⟩⟩
  · refine (fitS_out (decide (V < 0)) a n c w (by omega)).mono ?_
    rintro e w' ⟨rfl, hb⟩
    exact ⟨false, none, 0, 0, [], false, rfl, hb, .inl rfl, Arg.none _, .inl ⟨rfl, zs, hn, .inr ⟨by rw [ha.len]; omega, rfl, rfl, rfl⟩⟩⟩
end Go.Proofs.Ytagnhgefdcckoaa
namespace Go.Proofs.Ytagnhgefdcckoaa
open Go.RowKit
set_option linter.unusedVariables false
set_option maxRecDepth 100000
set_option linter.unusedSimpArgs false

theorem outA_of {w w2 : World} {P : Bool} {V : Int} {gr : Bool} {a : Option Addr} {n c : Nat} {ts : List Int} {ok : Bool} {s : Nat} (hs : w.heap.size ≤ s) (hb : Below w.heap.size w w2) (ho : Own (s + 1) w2 a ts) (ha : Arg w2 a n c ts) (h : Ans P V gr ts ok) (v v' : Value) :
    OutA w P V (.returned (.tuple #[.agg #[.bool gr, .slice a n c], .bool ok])) ((w2.setCell ⟨s, 0, none⟩ v).setCell ⟨s, 1, none⟩ v') := by
  obtain ⟨f1, f2, f3⟩ := fin_set hs hb ho ha v v'
  exact ⟨gr, a, n, c, ts, ok, rfl, f1, f2, f3, h⟩
theorem outA_no {w w2 : World} {V : Int} {s : Nat} (hs : w.heap.size ≤ s) (hb : Below w.heap.size w w2) (v v' : Value) :
    OutA w false V (.returned (.tuple #[.agg #[.bool false, .slice none 0 0], .bool false])) ((w2.setCell ⟨s, 0, none⟩ v).setCell ⟨s, 1, none⟩ v') :=
  ⟨false, none, 0, 0, [], false, rfl, (hb.setCell hs _).setCell hs _, .inl rfl, Arg.none _, .inr ⟨rfl, rfl, rfl, rfl⟩⟩

set_option maxHeartbeats 4000000 in
theorem AddI_any (g g' : Bool) (a a' : Option Addr) (n m c c' : Nat) (xs ys : List Int) (w : World) (hx : Arg w a n c xs) (hy : Arg w a' m c' ys) :
    Calls Try.prog 18 #[.agg #[.bool g, .slice a n c], .agg #[.bool g', .slice a' m c']] w (OutA w (goodB g xs && goodB g' ys) (sv g xs + sv g' ys)) := by
  have HX := hide hx
  have HY := hide hy
  clear hx hy
  have B3 := hide (below_three w (.cells #[.bool g, .slice a n c] 25) (.cells #[.bool g', .slice a' m c'] 25) (.cells #[.bool false, .slice none 0 0] 25))
  cases hP : (goodB g xs && goodB g' ys)
  · go_enter Try.func18, Try.ntmps18
    go_wp2_with fail
    refine (pair_any g g' a a' n m c c' xs ys _ ((unhide HX).later (unhide B3)).sl ((unhide HY).later (unhide B3)).sl (unhide HX).len (unhide HY).len (Nat.le_trans (unhide HX).cap (unhide HX).top) (Nat.le_trans (unhide HY).cap (unhide HY).top)).mono ?_
    rintro e w1 ⟨rfl, hb1⟩
    rw [hP]
    have r0 : w1.cell? ⟨w.heap.size + 1 + 1, 0, none⟩ = some (.bool false) := cell_later hb1 (by simp [go_sem])
    have r1 : w1.cell? ⟨w.heap.size + 1 + 1, 1, none⟩ = some (.slice none 0 0) := cell_later hb1 (by simp [go_sem])
    have f0 : ∀ o, w1.frozen? ⟨w.heap.size + 1 + 1, o, none⟩ = false := fun o => frozen_later hb1 (by simp) (by simp [go_sem])
    have HB := hide ((unhide B3).trans (hb1.mono (by simp <;> omega)))
    clear hb1 hP
    go_wp2
    exact bodyPost_ret (v := .tuple #[.agg #[.bool false, .slice none 0 0], .bool false]) (by simp [results, Try.results18, go_sem, r0, r1]) rfl (outA_no (s := w.heap.size + 1 + 1) (by omega) (unhide HB) _ _)
  · have hg1 : goodB g xs = true := by revert hP; cases goodB g xs <;> simp
    have hg2 : goodB g' ys = true := by revert hP; cases goodB g' ys <;> simp
    have NX := hide (num_of_good (unhide HX) hg1)
    have NY := hide (num_of_good (unhide HY) hg2)
    clear hg1 hg2
    go_enter Try.func18, Try.ntmps18
    go_wp2_with fail
    refine (pair_any g g' a a' n m c c' xs ys _ ((unhide HX).later (unhide B3)).sl ((unhide HY).later (unhide B3)).sl (unhide HX).len (unhide HY).len (Nat.le_trans (unhide HX).cap (unhide HX).top) (Nat.le_trans (unhide HY).cap (unhide HY).top)).mono ?_
    rintro e w1 ⟨rfl, hb1⟩
    rw [hP]
    have x0 : w1.cell? ⟨w.heap.size, 0, none⟩ = some (.bool g) := cell_later hb1 (by simp [go_sem])
    have x1 : w1.cell? ⟨w.heap.size, 1, none⟩ = some (.slice a n c) := cell_later hb1 (by simp [go_sem])
    have y0 : w1.cell? ⟨w.heap.size + 1, 0, none⟩ = some (.bool g') := cell_later hb1 (by simp [go_sem])
    have y1 : w1.cell? ⟨w.heap.size + 1, 1, none⟩ = some (.slice a' m c') := cell_later hb1 (by simp [go_sem])
    have r0 : w1.cell? ⟨w.heap.size + 1 + 1, 0, none⟩ = some (.bool false) := cell_later hb1 (by simp [go_sem])
    have r1 : w1.cell? ⟨w.heap.size + 1 + 1, 1, none⟩ = some (.slice none 0 0) := cell_later hb1 (by simp [go_sem])
    have f0 : ∀ o, w1.frozen? ⟨w.heap.size + 1 + 1, o, none⟩ = false := fun o => frozen_later hb1 (by simp) (by simp [go_sem])
    have s1 : w.heap.size + 1 + 1 + 1 ≤ w1.heap.size := by have := hb1.size; simp at this; omega
    have HB := hide ((unhide B3).trans (hb1.mono (by simp <;> omega)))
    clear hb1 hP
    go_wp2_with fail
    refine (addSgI_any g g' a a' n m c c' xs ys w1 ((unhide NX).later (unhide HB)) ((unhide NY).later (unhide HB))).mono ?_
    rintro e w2 ⟨a2, n2, c2, zs, rfl, hb2, ho2, ha2, hn2⟩
    replace r0 := cell_later hb2 r0
    replace r1 := cell_later hb2 r1
    replace f0 : ∀ o, w2.frozen? ⟨w.heap.size + 1 + 1, o, none⟩ = false := fun o => frozen_later hb2 (by omega) (f0 o)
    replace HB := hide (below_on (unhide HB) hb2)
    have s2 : w.heap.size + 1 + 1 + 1 ≤ w2.heap.size := Nat.le_trans s1 hb2.size
    have HF := hide (fitI_any (sv g xs + sv g' ys) a2 n2 c2 zs w2 (w.heap.size + 1 + 1 + 1) (ho2.mono s1) ha2 hn2)
    clear x0 x1 y0 y1 hb2 ho2 ha2 hn2 s1
    go_wp2_with fail
    refine (unhide HF).mono ?_
    rintro e w3 ⟨gr, a3, n3, c3, ts, ok, rfl, hb3, ho3, ha3, hans⟩
    replace r0 := cell_later hb3 r0
    replace r1 := cell_later hb3 r1
    replace f0 : ∀ o, w3.frozen? ⟨w.heap.size + 1 + 1, o, none⟩ = false := fun o => frozen_later hb3 (by omega) (f0 o)
    replace HB := hide (below_on (unhide HB) hb3)
    have HO := hide ho3
    have HA := hide ha3
    have HS := hide hans
    clear hb3 ho3 ha3 hans s2 HF
    go_wp2
    exact bodyPost_ret (v := .tuple #[.agg #[.bool gr, .slice a3 n3 c3], .bool ok]) (by simp [results, Try.results18, go_sem, r0, r1]) rfl (outA_of (s := w.heap.size + 1 + 1) (by omega) (unhide HB) (unhide HO) (unhide HA) (unhide HS) _ _)

end Go.Proofs.Ytagnhgefdcckoaa
namespace Go.Proofs.Ytagnhgefdcckoaa
open Go.RowKit
set_option linter.unusedVariables false
set_option maxRecDepth 100000
set_option linter.unusedSimpArgs false

theorem fitM (g : Bool) (U : Int) (a : Option Addr) (n c : Nat) (zs : List Int) (w : World) (base : Nat) (ho : Own base w a zs) (ha : Arg w a n c zs) (hn : Nm zs U) (V : Int) (hV : V = if g then -U else U) :
    Calls Try.prog 46 #[.agg #[.bool (sd g U), .slice a n c]] w fun e w' => ∃ gr a2 n2 c2 ts ok, e = .returned (.tuple #[.agg #[.bool gr, .slice a2 n2 c2], .bool ok]) ∧ Below w.heap.size w w' ∧ Own base w' a2 ts ∧ Arg w' a2 n2 c2 ts ∧ Ans true V gr ts ok := by
  have e : sd g U = decide (V < 0) := by rw [hV]; rfl
  rw [e]
  exact fitI_any V a n c zs w base ho ha (by rw [natAbs_sign hn.nonneg hV]; exact hn)

set_option maxHeartbeats 4000000 in
theorem MulI_any (g g' : Bool) (a a' : Option Addr) (n m c c' : Nat) (xs ys : List Int) (w : World) (hx : Arg w a n c xs) (hy : Arg w a' m c' ys) :
    Calls Try.prog 8 #[.agg #[.bool g, .slice a n c], .agg #[.bool g', .slice a' m c']] w (OutA w (goodB g xs && goodB g' ys) (sv g xs * sv g' ys)) := by
  have HX := hide hx
  have HY := hide hy
  clear hx hy
  have B3 := hide (below_three w (.cells #[.bool g, .slice a n c] 25) (.cells #[.bool g', .slice a' m c'] 25) (.cells #[.bool false, .slice none 0 0] 25))
  cases hP : (goodB g xs && goodB g' ys)
  · go_enter Try.func8, Try.ntmps8
    go_wp2_with fail
    refine (pair_any g g' a a' n m c c' xs ys _ ((unhide HX).later (unhide B3)).sl ((unhide HY).later (unhide B3)).sl (unhide HX).len (unhide HY).len (Nat.le_trans (unhide HX).cap (unhide HX).top) (Nat.le_trans (unhide HY).cap (unhide HY).top)).mono ?_
    rintro e w1 ⟨rfl, hb1⟩
    rw [hP]
    have r0 : w1.cell? ⟨w.heap.size + 1 + 1, 0, none⟩ = some (.bool false) := cell_later hb1 (by simp [go_sem])
    have r1 : w1.cell? ⟨w.heap.size + 1 + 1, 1, none⟩ = some (.slice none 0 0) := cell_later hb1 (by simp [go_sem])
    have f0 : ∀ o, w1.frozen? ⟨w.heap.size + 1 + 1, o, none⟩ = false := fun o => frozen_later hb1 (by simp) (by simp [go_sem])
    have HB := hide ((unhide B3).trans (hb1.mono (by simp <;> omega)))
    clear hb1 hP
    go_wp2
    exact bodyPost_ret (v := .tuple #[.agg #[.bool false, .slice none 0 0], .bool false]) (by simp [results, Try.results8, go_sem, r0, r1]) rfl (outA_no (s := w.heap.size + 1 + 1) (by omega) (unhide HB) _ _)
  · have hg1 : goodB g xs = true := by revert hP; cases goodB g xs <;> simp
    have hg2 : goodB g' ys = true := by revert hP; cases goodB g' ys <;> simp
    have NX := hide (num_of_good (unhide HX) hg1)
    have NY := hide (num_of_good (unhide HY) hg2)
    have NL : Hid (n ≤ 500000) := hide (by have := (good_parts hg1).2.2.1; have := (unhide HX).len; omega)
    have ML : Hid (m ≤ 500000) := hide (by have := (good_parts hg2).2.2.1; have := (unhide HY).len; omega)
    clear hg1 hg2
    go_enter Try.func8, Try.ntmps8
    go_wp2_with fail
    refine (pair_any g g' a a' n m c c' xs ys _ ((unhide HX).later (unhide B3)).sl ((unhide HY).later (unhide B3)).sl (unhide HX).len (unhide HY).len (Nat.le_trans (unhide HX).cap (unhide HX).top) (Nat.le_trans (unhide HY).cap (unhide HY).top)).mono ?_
    rintro e w1 ⟨rfl, hb1⟩
    rw [hP]
    have x0 : w1.cell? ⟨w.heap.size, 0, none⟩ = some (.bool g) := cell_later hb1 (by simp [go_sem])
    have x1 : w1.cell? ⟨w.heap.size, 1, none⟩ = some (.slice a n c) := cell_later hb1 (by simp [go_sem])
    have y0 : w1.cell? ⟨w.heap.size + 1, 0, none⟩ = some (.bool g') := cell_later hb1 (by simp [go_sem])
    have y1 : w1.cell? ⟨w.heap.size + 1, 1, none⟩ = some (.slice a' m c') := cell_later hb1 (by simp [go_sem])
    have r0 : w1.cell? ⟨w.heap.size + 1 + 1, 0, none⟩ = some (.bool false) := cell_later hb1 (by simp [go_sem])
    have r1 : w1.cell? ⟨w.heap.size + 1 + 1, 1, none⟩ = some (.slice none 0 0) := cell_later hb1 (by simp [go_sem])
    have f0 : ∀ o, w1.frozen? ⟨w.heap.size + 1 + 1, o, none⟩ = false := fun o => frozen_later hb1 (by simp) (by simp [go_sem])
    have s1 : w.heap.size + 1 + 1 + 1 ≤ w1.heap.size := by have := hb1.size; simp at this; omega
    have HB := hide ((unhide B3).trans (hb1.mono (by simp <;> omega)))
    clear hb1 hP
    go_wp2_with fail
    refine (mulSgI_any g g' a a' n m c c' xs ys w1 ((unhide NX).later (unhide HB)) ((unhide NY).later (unhide HB)) (unhide NL) (unhide ML)).mono ?_
    rintro e w2 ⟨a2, n2, c2, zs, rfl, hb2, ho2, ha2, hn2⟩
    replace r0 := cell_later hb2 r0
    replace r1 := cell_later hb2 r1
    replace f0 : ∀ o, w2.frozen? ⟨w.heap.size + 1 + 1, o, none⟩ = false := fun o => frozen_later hb2 (by omega) (f0 o)
    replace HB := hide (below_on (unhide HB) hb2)
    have s2 : w.heap.size + 1 + 1 + 1 ≤ w2.heap.size := Nat.le_trans s1 hb2.size
    have HF := hide (fitI_any (sv g xs * sv g' ys) a2 n2 c2 zs w2 (w.heap.size + 1 + 1 + 1) (ho2.mono s1) ha2 hn2)
    clear x0 x1 y0 y1 hb2 ho2 ha2 hn2 s1
    go_wp2_with fail
    refine (unhide HF).mono ?_
    rintro e w3 ⟨gr, a3, n3, c3, ts, ok, rfl, hb3, ho3, ha3, hans⟩
    replace r0 := cell_later hb3 r0
    replace r1 := cell_later hb3 r1
    replace f0 : ∀ o, w3.frozen? ⟨w.heap.size + 1 + 1, o, none⟩ = false := fun o => frozen_later hb3 (by omega) (f0 o)
    replace HB := hide (below_on (unhide HB) hb3)
    have HO := hide ho3
    have HA := hide ha3
    have HS := hide hans
    clear hb3 ho3 ha3 hans s2 HF
    go_wp2
    exact bodyPost_ret (v := .tuple #[.agg #[.bool gr, .slice a3 n3 c3], .bool ok]) (by simp [results, Try.results8, go_sem, r0, r1]) rfl (outA_of (s := w.heap.size + 1 + 1) (by omega) (unhide HB) (unhide HO) (unhide HA) (unhide HS) _ _)

set_option maxHeartbeats 4000000 in
theorem MulS_any (g g' : Bool) (a a' : Option Addr) (n m c c' : Nat) (xs ys : List Int) (w : World) (hx : Arg w a n c xs) (hy : Arg w a' m c' ys) :
    Calls Try.prog 9 #[.agg #[.bool g, .slice a n c], .agg #[.bool g', .slice a' m c']] w (OutA w (goodB g xs && goodB g' ys) (sv g xs * sv g' ys)) := by
  have HX := hide hx
  have HY := hide hy
  clear hx hy
  have B3 := hide (below_three w (.cells #[.bool g, .slice a n c] 25) (.cells #[.bool g', .slice a' m c'] 25) (.cells #[.bool false, .slice none 0 0] 25))
  have mx := hide (Nat.le_trans (unhide HX).cap (unhide HX).top)
  have my := hide (Nat.le_trans (unhide HY).cap (unhide HY).top)
  cases hg1 : goodB g xs
  · rw [Bool.false_and]
    go_enter Try.func9, Try.ntmps9
    go_wp2_with fail
    refine (goodS_any g a n c xs _ ((unhide HX).later (unhide B3)).sl (unhide HX).len (unhide mx)).mono ?_
    rintro e w1 ⟨rfl, hb1⟩
    have r0 : w1.cell? ⟨w.heap.size + 1 + 1, 0, none⟩ = some (.bool false) := cell_later hb1 (by simp [go_sem])
    have r1 : w1.cell? ⟨w.heap.size + 1 + 1, 1, none⟩ = some (.slice none 0 0) := cell_later hb1 (by simp [go_sem])
    have f0 : ∀ o, w1.frozen? ⟨w.heap.size + 1 + 1, o, none⟩ = false := fun o => frozen_later hb1 (by simp) (by simp [go_sem])
    have HB := hide ((unhide B3).trans (hb1.mono (by simp <;> omega)))
    clear hb1
    go_wp2
    exact bodyPost_ret (v := .tuple #[.agg #[.bool false, .slice none 0 0], .bool false]) (by simp [results, Try.results9, go_sem, r0, r1]) rfl (outA_no (s := w.heap.size + 1 + 1) (by omega) (unhide HB) _ _)
  · rw [Bool.true_and]
    have NX := hide (num_of_good (unhide HX) hg1)
    cases hg2 : goodB g' ys
    · go_enter Try.func9, Try.ntmps9
      go_wp2_with fail
      refine (goodS_any g a n c xs _ ((unhide HX).later (unhide B3)).sl (unhide HX).len (unhide mx)).mono ?_
      rintro e w1 ⟨rfl, hb1⟩
      have y0 : w1.cell? ⟨w.heap.size + 1, 0, none⟩ = some (.bool g') := cell_later hb1 (by simp [go_sem])
      have y1 : w1.cell? ⟨w.heap.size + 1, 1, none⟩ = some (.slice a' m c') := cell_later hb1 (by simp [go_sem])
      have r0 : w1.cell? ⟨w.heap.size + 1 + 1, 0, none⟩ = some (.bool false) := cell_later hb1 (by simp [go_sem])
      have r1 : w1.cell? ⟨w.heap.size + 1 + 1, 1, none⟩ = some (.slice none 0 0) := cell_later hb1 (by simp [go_sem])
      have f0 : ∀ o, w1.frozen? ⟨w.heap.size + 1 + 1, o, none⟩ = false := fun o => frozen_later hb1 (by simp) (by simp [go_sem])
      have s1 : w.heap.size + 1 + 1 + 1 ≤ w1.heap.size := by have := hb1.size; simp at this; omega
      have HB := hide ((unhide B3).trans (hb1.mono (by simp <;> omega)))
      clear hb1
      go_wp2_with fail
      refine (goodS_any g' a' m c' ys _ ((unhide HY).later (unhide HB)).sl (unhide HY).len (unhide my)).mono ?_
      rintro e w2 ⟨rfl, hb2⟩
      replace r0 := cell_later hb2 r0
      replace r1 := cell_later hb2 r1
      replace f0 : ∀ o, w2.frozen? ⟨w.heap.size + 1 + 1, o, none⟩ = false := fun o => frozen_later hb2 (by omega) (f0 o)
      replace HB := hide (below_on (unhide HB) hb2)
      clear hb2
      go_wp2
      exact bodyPost_ret (v := .tuple #[.agg #[.bool false, .slice none 0 0], .bool false]) (by simp [results, Try.results9, go_sem, r0, r1]) rfl (outA_no (s := w.heap.size + 1 + 1) (by omega) (unhide HB) _ _)
    · have NY := hide (num_of_good (unhide HY) hg2)
      have NL : Hid (n ≤ 500000) := hide (by have := (good_parts hg1).2.2.1; have := (unhide HX).len; omega)
      have ML : Hid (m ≤ 500000) := hide (by have := (good_parts hg2).2.2.1; have := (unhide HY).len; omega)
      go_enter Try.func9, Try.ntmps9
      go_wp2_with fail
      refine (goodS_any g a n c xs _ ((unhide HX).later (unhide B3)).sl (unhide HX).len (unhide mx)).mono ?_
      rintro e w1 ⟨rfl, hb1⟩
      have x0 : w1.cell? ⟨w.heap.size, 0, none⟩ = some (.bool g) := cell_later hb1 (by simp [go_sem])
      have x1 : w1.cell? ⟨w.heap.size, 1, none⟩ = some (.slice a n c) := cell_later hb1 (by simp [go_sem])
      have y0 : w1.cell? ⟨w.heap.size + 1, 0, none⟩ = some (.bool g') := cell_later hb1 (by simp [go_sem])
      have y1 : w1.cell? ⟨w.heap.size + 1, 1, none⟩ = some (.slice a' m c') := cell_later hb1 (by simp [go_sem])
      have r0 : w1.cell? ⟨w.heap.size + 1 + 1, 0, none⟩ = some (.bool false) := cell_later hb1 (by simp [go_sem])
      have r1 : w1.cell? ⟨w.heap.size + 1 + 1, 1, none⟩ = some (.slice none 0 0) := cell_later hb1 (by simp [go_sem])
      have f0 : ∀ o, w1.frozen? ⟨w.heap.size + 1 + 1, o, none⟩ = false := fun o => frozen_later hb1 (by simp) (by simp [go_sem])
      have s1 : w.heap.size + 1 + 1 + 1 ≤ w1.heap.size := by have := hb1.size; simp at this; omega
      have HB := hide ((unhide B3).trans (hb1.mono (by simp <;> omega)))
      clear hb1
      go_wp2_with fail
      refine (goodS_any g' a' m c' ys _ ((unhide HY).later (unhide HB)).sl (unhide HY).len (unhide my)).mono ?_
      rintro e w2 ⟨rfl, hb2⟩
      replace x0 := cell_later hb2 x0
      replace x1 := cell_later hb2 x1
      replace y0 := cell_later hb2 y0
      replace y1 := cell_later hb2 y1
      replace r0 := cell_later hb2 r0
      replace r1 := cell_later hb2 r1
      replace f0 : ∀ o, w2.frozen? ⟨w.heap.size + 1 + 1, o, none⟩ = false := fun o => frozen_later hb2 (by omega) (f0 o)
      replace HB := hide (below_on (unhide HB) hb2)
      have s2 : w.heap.size + 1 + 1 + 1 ≤ w2.heap.size := Nat.le_trans s1 hb2.size
      clear hb2 s1
      go_wp2_with fail
      refine (mulSgS_any g g' a a' n m c c' xs ys w2 ((unhide NX).later (unhide HB)) ((unhide NY).later (unhide HB)) (unhide NL) (unhide ML)).mono ?_
      rintro e w3 ⟨a2, n2, c2, zs, rfl, hb3, ho2, ha2, hn2⟩
      replace r0 := cell_later hb3 r0
      replace r1 := cell_later hb3 r1
      replace f0 : ∀ o, w3.frozen? ⟨w.heap.size + 1 + 1, o, none⟩ = false := fun o => frozen_later hb3 (by omega) (f0 o)
      replace HB := hide (below_on (unhide HB) hb3)
      have s3 : w.heap.size + 1 + 1 + 1 ≤ w3.heap.size := Nat.le_trans s2 hb3.size
      have HF := hide (fitS_any (sv g xs * sv g' ys) a2 n2 c2 zs w3 (w.heap.size + 1 + 1 + 1) (ho2.mono s2) ha2 hn2)
      clear x0 x1 y0 y1 hb3 ho2 ha2 hn2 s2
      go_wp2_with fail
      refine (unhide HF).mono ?_
      rintro e w4 ⟨gr, a3, n3, c3, ts, ok, rfl, hb4, ho3, ha3, hans⟩
      replace r0 := cell_later hb4 r0
      replace r1 := cell_later hb4 r1
      replace f0 : ∀ o, w4.frozen? ⟨w.heap.size + 1 + 1, o, none⟩ = false := fun o => frozen_later hb4 (by omega) (f0 o)
      replace HB := hide (below_on (unhide HB) hb4)
      have HO := hide ho3
      have HA := hide ha3
      have HS := hide hans
      clear hb4 ho3 ha3 hans s3 HF
      go_wp2
      exact bodyPost_ret (v := .tuple #[.agg #[.bool gr, .slice a3 n3 c3], .bool ok]) (by simp [results, Try.results9, go_sem, r0, r1]) rfl (outA_of (s := w.heap.size + 1 + 1) (by omega) (unhide HB) (unhide HO) (unhide HA) (unhide HS) _ _)
end Go.Proofs.Ytagnhgefdcckoaa
namespace Go.Proofs.Ytagnhgefdcckoaa
open Go.RowKit
set_option linter.unusedVariables false
set_option maxRecDepth 100000
set_option linter.unusedSimpArgs false

def intOk (g : Bool) (xs : List Int) : Bool := goodB g xs && decide (val xs ≤ 4611686018427387904)
def intV (g : Bool) (xs : List Int) : Int := if intOk g xs then sv g xs else 0
theorem below_one' {w w1 : World} {o : Obj} (h : Below (w.alloc o).heap.size (w.alloc o) w1) : Below w.heap.size w w1 := ((Below.refl _ _).alloc (Nat.le_refl _) o).trans (h.mono (by simp))

theorem or_comm64 (a b : Int) : bits .or .u64 a b = bits .or .u64 b a := by simp only [bits, BitVec.or_comm]
theorem wraps64 (n : Int) (h₀ : 0 ≤ n) (h₁ : n < 2 ^ 64) : IntKind.u64.wrap n = n := by rw [IntKind.wrap_u64]; omega
theorem or_join (k : Nat) (F x : Int) (hk : k ≤ 3) (h0 : 0 ≤ F) (h1 : F < 65536 ^ k) (hx0 : 0 ≤ x) (hx1 : x ≤ 65535) :
    bits .or .u64 F (IntKind.u64.wrap (x * 2 ^ (k * 16))) = F + 65536 ^ k * x := by
  rcases (show k = 0 ∨ k = 1 ∨ k = 2 ∨ k = 3 from by omega) with rfl | rfl | rfl | rfl
  · have e : x * 2 ^ (0 * 16) = x := by simp
    rw [e, wraps64 x hx0 (by omega), or_comm64, bits_join .u64 64 (by decide) wraps64 0 x F hx0 (by simp) (by omega) h0 (by simpa using h1) (by simp at h1; omega)]
    simp; omega
  · have e : x * 2 ^ (1 * 16) = x * 65536 := by simp
    have h1' : F < 65536 := by simpa using h1
    rw [e, wraps64 (x * 65536) (by omega) (by omega), or_comm64, bits_join .u64 64 (by decide) wraps64 16 (x * 65536) F (by omega) (by omega) (by omega) h0 (by omega) (by omega)]
    simp; omega
  · have e : x * 2 ^ (2 * 16) = x * 4294967296 := by simp
    have h1' : F < 4294967296 := by simpa using h1
    rw [e, wraps64 (x * 4294967296) (by omega) (by omega), or_comm64, bits_join .u64 64 (by decide) wraps64 32 (x * 4294967296) F (by omega) (by omega) (by omega) h0 (by omega) (by omega)]
    simp; omega
  · have e : x * 2 ^ (3 * 16) = x * 281474976710656 := by simp
    have h1' : F < 281474976710656 := by simpa using h1
    rw [e, wraps64 (x * 281474976710656) (by omega) (by omega), or_comm64, bits_join .u64 64 (by decide) wraps64 48 (x * 281474976710656) F (by omega) (by omega) (by omega) h0 (by omega) (by omega)]
    simp; omega
theorem int_long {g : Bool} {xs : List Int} (hg : goodB g xs = true) (h : 4 < xs.length) : intOk g xs = false := by
  obtain ⟨h1, h2, _, _⟩ := good_parts hg
  have h3 := top_le h1 h2 (by omega)
  have h4 := pow_mono (show 4 ≤ xs.length - 1 by omega)
  have h5 : (65536 : Int) ^ 4 = 18446744073709551616 := by decide
  have h6 : ¬ val xs ≤ 4611686018427387904 := by omega
  simp [intOk, h6]
theorem int_bad {g : Bool} {xs : List Int} (hg : goodB g xs = false) : intOk g xs = false := by simp [intOk, hg]
theorem int_great {g : Bool} {xs : List Int} (h : 4611686018427387904 < val xs) : intOk g xs = false := by
  have h6 : ¬ val xs ≤ 4611686018427387904 := by omega
  simp [intOk, h6]
theorem int_fits {g : Bool} {xs : List Int} (hg : goodB g xs = true) (h : val xs ≤ 4611686018427387904) : intOk g xs = true := by simp [intOk, hg, h]
theorem ret_pair {v : Int} {b : Bool} {v' : Int} {b' : Bool} (h1 : v = v') (h2 : b = b') : Ending.returned (.tuple #[.int .i64 v, .bool b]) = .returned (.tuple #[.int .i64 v', .bool b']) := by rw [h1, h2]
theorem int_no {g : Bool} {xs : List Int} (h : intOk g xs = false) : intV g xs = 0 := by simp [intV, h]
theorem int_yes {g : Bool} {xs : List Int} (h : intOk g xs = true) : intV g xs = sv g xs := by simp [intV, h]

set_option maxHeartbeats 4000000 in
theorem intI_loop (g : Bool) (a : Option Addr) (n c : Nat) (xs : List Int) (w : World) (hx : Arg w a n c xs) (hg : goodB g xs = true) (hn4 : n ≤ 4) :
    Calls Try.prog 21 #[.agg #[.bool g, .slice a n c]] w fun e w' => e = .returned (.tuple #[.int .i64 (intV g xs), .bool (intOk g xs)]) ∧ Below w.heap.size w w' := by
  have HX := hide hx
  have HG := hide hg
  have ox := (good_parts hg).1
  clear hx
  have d1 : ¬ ((64 : Int) < (n : Int) * 16) := by omega
  go_enter Try.func21, Try.ntmps21
  go_wp2_with fail
  refine (goodI_any g a n c xs _ ((unhide HX).later ((Below.refl _ _).alloc (Nat.le_refl _) _)).sl (unhide HX).len (Nat.le_trans (unhide HX).cap (unhide HX).top)).mono ?_
  rintro e w1 ⟨rfl, hb1⟩
  have x0 : w1.cell? ⟨w.heap.size, 0, none⟩ = some (.bool g) := cell_later hb1 (by simp [go_sem])
  have x1 : w1.cell? ⟨w.heap.size, 1, none⟩ = some (.slice a n c) := cell_later hb1 (by simp [go_sem])
  have HB := hide (below_one' hb1)
  clear hb1
  rw [hg]
  clear hg
  go_wp2
  go_loop [4, 20] (fun fv iv => ∃ (k : Nat) (F : Int), k ≤ n ∧ iv = .int .i64 k ∧ fv = .int .u64 F ∧ Hid (F = val (xs.take k))) (fun _ iv => n - (intOf iv).toNat)
  case atStart => exact ⟨0, 0, Nat.zero_le _, rfl, rfl, hide (by simp [val])⟩
  case round =>
    obtain ⟨k, F, hk, rfl, rfl, HF⟩ := hrel
    by_cases hlt : k < n
    · obtain ⟨b, off, rfl, hcx⟩ := ((unhide HX).sl.later (Nat.le_refl _) (unhide HB)).at (k := k) (by rw [(unhide HX).len]; exact hlt)
      have hxb := okL_get ox k
      have HV := hide (val_take_succ xs k)
      generalize xs.getD k 0 = x at *
      obtain ⟨hx0, hx1⟩ := hxb
      have hlt' : (k : Int) < (n : Int) := by omega
      have HF0 := hide (show 0 ≤ F by rw [unhide HF]; exact val_nonneg (okL_take ox k))
      have HF1 := hide (show F < 65536 ^ k by
        rw [unhide HF]
        have h1 := val_lt (okL_take ox k)
        rw [List.length_take, Nat.min_eq_left (by rw [(unhide HX).len]; omega)] at h1
        exact h1)
      have HJ := hide (or_join k F x (by omega) (unhide HF0) (unhide HF1) hx0 hx1)
      go_wp2
      go_round
      case rel => exact ⟨k + 1, _, by omega, by go_num, rfl, hide (by rw [unhide HJ, unhide HV, unhide HF])⟩
      case measure => simp [intOf]; omega
    · obtain rfl : k = n := by omega
      have HT := hide (List.take_of_length_le (l := xs) (i := k) (by rw [(unhide HX).len]; exact Nat.le_refl _))
      have HFv : Hid (F = val xs) := hide (by rw [unhide HF, unhide HT])
      have F0 : 0 ≤ F := by rw [unhide HFv]; exact val_nonneg ox
      by_cases hbig : 4611686018427387904 < F
      · go_wp2
        go_ret2
        have h2 := int_great (g := g) (xs := xs) (by rw [← unhide HFv]; exact hbig)
        exact ⟨ret_pair (int_no h2).symm h2.symm, unhide HB⟩
      · have h2 := hide (int_fits (unhide HG) (by rw [← unhide HFv]; omega))
        cases g
        · go_wp2
          go_ret2
          exact ⟨ret_pair (by rw [int_yes (unhide h2), unhide HFv]; rfl) (unhide h2).symm, unhide HB⟩
        · go_wp2
          go_ret2
          exact ⟨ret_pair (by rw [int_yes (unhide h2), unhide HFv]; rfl) (unhide h2).symm, unhide HB⟩

set_option maxHeartbeats 4000000 in
theorem intI_any (g : Bool) (a : Option Addr) (n c : Nat) (xs : List Int) (w : World) (hx : Arg w a n c xs) (h1 : n ≤ 1048576) :
    Calls Try.prog 21 #[.agg #[.bool g, .slice a n c]] w fun e w' => e = .returned (.tuple #[.int .i64 (intV g xs), .bool (intOk g xs)]) ∧ Below w.heap.size w w' := by
  cases hg : goodB g xs
  · have h2 := int_bad hg
    rw [int_no h2, h2]
    have HX := hide hx
    clear hx h2
    go_enter Try.func21, Try.ntmps21
    go_wp2_with fail
    refine (goodI_any g a n c xs _ ((unhide HX).later ((Below.refl _ _).alloc (Nat.le_refl _) _)).sl (unhide HX).len (Nat.le_trans (unhide HX).cap (unhide HX).top)).mono ?_
    rintro e w1 ⟨rfl, hb1⟩
    rw [hg]
    have HB := hide (below_one' hb1)
    clear hb1 hg
    go_wp2
    go_ret2
    exact ⟨rfl, unhide HB⟩
  · by_cases h4 : n ≤ 4
    · exact intI_loop g a n c xs w hx hg h4
    · have h2 := int_long hg (by rw [hx.len]; omega)
      rw [int_no h2, h2]
      have HX := hide hx
      clear hx h2
      have d1 : (64 : Int) < (n : Int) * 16 := by omega
      go_enter Try.func21, Try.ntmps21
      go_wp2_with fail
      refine (goodI_any g a n c xs _ ((unhide HX).later ((Below.refl _ _).alloc (Nat.le_refl _) _)).sl (unhide HX).len (Nat.le_trans (unhide HX).cap (unhide HX).top)).mono ?_
      rintro e w1 ⟨rfl, hb1⟩
      rw [hg]
      have x1 : w1.cell? ⟨w.heap.size, 1, none⟩ = some (.slice a n c) := cell_later hb1 (by simp [go_sem])
      have HB := hide (below_one' hb1)
      clear hb1 hg
      go_wp2
      go_ret2
      exact ⟨rfl, unhide HB⟩
end Go.Proofs.Ytagnhgefdcckoaa
namespace Go.Proofs.Ytagnhgefdcckoaa
open Go.RowKit
set_option linter.unusedVariables false
set_option maxRecDepth 100000
set_option linter.unusedSimpArgs false

theorem gcd_short {xs ys zs : List Int} (ox : okL xs) (oy : okL ys) (hx : xs.length ≤ 40) (hy : ys.length ≤ 40) (h : Nm zs ((Nat.gcd (val xs).toNat (val ys).toNat : Nat) : Int)) : zs.length ≤ 40 := by
  have x0 := val_nonneg ox
  have y0 := val_nonneg oy
  by_cases h0 : 0 < (val xs).toNat
  · have := Nat.gcd_le_left (val ys).toNat h0
    exact Nat.le_trans (len_of_val ox h.ok h.tr (by rw [h.v]; omega)) hx
  · have e : (val xs).toNat = 0 := by omega
    rw [e, Nat.gcd_zero_left] at h
    exact Nat.le_trans (len_of_val oy h.ok h.tr (by rw [h.v]; omega)) hy

set_option maxHeartbeats 4000000 in
theorem GcdI_any (g g' : Bool) (a a' : Option Addr) (n m c c' : Nat) (xs ys : List Int) (w : World) (hx : Arg w a n c xs) (hy : Arg w a' m c' ys) :
    Calls Try.prog 14 #[.agg #[.bool g, .slice a n c], .agg #[.bool g', .slice a' m c']] w (OutA w (goodB g xs && goodB g' ys) (((Nat.gcd (val xs).toNat (val ys).toNat : Nat) : Int))) := by
  have HX := hide hx
  have HY := hide hy
  clear hx hy
  have B3 := hide (below_three w (.cells #[.bool g, .slice a n c] 25) (.cells #[.bool g', .slice a' m c'] 25) (.cells #[.bool false, .slice none 0 0] 25))
  cases hP : (goodB g xs && goodB g' ys)
  · go_enter Try.func14, Try.ntmps14
    go_wp2_with fail
    refine (pair_any g g' a a' n m c c' xs ys _ ((unhide HX).later (unhide B3)).sl ((unhide HY).later (unhide B3)).sl (unhide HX).len (unhide HY).len (Nat.le_trans (unhide HX).cap (unhide HX).top) (Nat.le_trans (unhide HY).cap (unhide HY).top)).mono ?_
    rintro e w1 ⟨rfl, hb1⟩
    rw [hP]
    have r0 : w1.cell? ⟨w.heap.size + 1 + 1, 0, none⟩ = some (.bool false) := cell_later hb1 (by simp [go_sem])
    have r1 : w1.cell? ⟨w.heap.size + 1 + 1, 1, none⟩ = some (.slice none 0 0) := cell_later hb1 (by simp [go_sem])
    have f0 : ∀ o, w1.frozen? ⟨w.heap.size + 1 + 1, o, none⟩ = false := fun o => frozen_later hb1 (by simp) (by simp [go_sem])
    have HB := hide ((unhide B3).trans (hb1.mono (by simp <;> omega)))
    clear hb1 hP
    go_wp2
    exact bodyPost_ret (v := .tuple #[.agg #[.bool false, .slice none 0 0], .bool false]) (by simp [results, Try.results14, go_sem, r0, r1]) rfl (outA_no (s := w.heap.size + 1 + 1) (by omega) (unhide HB) _ _)
  · have hg1 : goodB g xs = true := by revert hP; cases goodB g xs <;> simp
    have hg2 : goodB g' ys = true := by revert hP; cases goodB g' ys <;> simp
    have NX := hide (num_of_good (unhide HX) hg1)
    have NY := hide (num_of_good (unhide HY) hg2)
    have NL : Hid (n ≤ 40) := hide (by have := (good_parts hg1).2.2.1; have := (unhide HX).len; omega)
    have ML : Hid (m ≤ 40) := hide (by have := (good_parts hg2).2.2.1; have := (unhide HY).len; omega)
    clear hg1 hg2
    go_enter Try.func14, Try.ntmps14
    go_wp2_with fail
    refine (pair_any g g' a a' n m c c' xs ys _ ((unhide HX).later (unhide B3)).sl ((unhide HY).later (unhide B3)).sl (unhide HX).len (unhide HY).len (Nat.le_trans (unhide HX).cap (unhide HX).top) (Nat.le_trans (unhide HY).cap (unhide HY).top)).mono ?_
    rintro e w1 ⟨rfl, hb1⟩
    rw [hP]
    have x0 : w1.cell? ⟨w.heap.size, 0, none⟩ = some (.bool g) := cell_later hb1 (by simp [go_sem])
    have x1 : w1.cell? ⟨w.heap.size, 1, none⟩ = some (.slice a n c) := cell_later hb1 (by simp [go_sem])
    have y0 : w1.cell? ⟨w.heap.size + 1, 0, none⟩ = some (.bool g') := cell_later hb1 (by simp [go_sem])
    have y1 : w1.cell? ⟨w.heap.size + 1, 1, none⟩ = some (.slice a' m c') := cell_later hb1 (by simp [go_sem])
    have r0 : w1.cell? ⟨w.heap.size + 1 + 1, 0, none⟩ = some (.bool false) := cell_later hb1 (by simp [go_sem])
    have r1 : w1.cell? ⟨w.heap.size + 1 + 1, 1, none⟩ = some (.slice none 0 0) := cell_later hb1 (by simp [go_sem])
    have f0 : ∀ o, w1.frozen? ⟨w.heap.size + 1 + 1, o, none⟩ = false := fun o => frozen_later hb1 (by simp) (by simp [go_sem])
    have s1 : w.heap.size + 1 + 1 + 1 ≤ w1.heap.size := by have := hb1.size; simp at this; omega
    have HB := hide ((unhide B3).trans (hb1.mono (by simp <;> omega)))
    clear hb1 hP
    go_wp2_with fail
    refine (gcdI_any a a' n m c c' xs ys _ ((unhide HX).later (unhide HB)) ((unhide HY).later (unhide HB)) (unhide NX).ok (unhide NX).tr (unhide NY).ok (unhide NY).tr (by have := unhide NL; omega) (by have := unhide ML; omega)).mono ?_
    rintro e w2 ⟨a2, n2, c2, zs, rfl, hb2, ho2, ha2, hn2⟩
    replace r0 := cell_later hb2 r0
    replace r1 := cell_later hb2 r1
    have f0' := f0
    clear f0
    have f0 : ∀ o, w2.frozen? ⟨w.heap.size + 1 + 1, o, none⟩ = false := fun o => frozen_later hb2 (by omega) (f0' o)
    clear f0'
    replace HB := hide (below_on (unhide HB) hb2)
    have hsz2 := hb2.size
    have s2' : w.heap.size + 1 + 1 + 1 ≤ w2.heap.size := by omega
    have hl2 : zs.length ≤ 40 := gcd_short (unhide NX).ok (unhide NY).ok (by rw [(unhide NX).arg.len]; exact unhide NL) (by rw [(unhide NY).arg.len]; exact unhide ML) hn2
    have hnn : n2 ≤ 40 := by rw [← ha2.len]; exact hl2
    have HN2 := hide hn2
    have HF := hide (signI_out false a2 n2 c2 zs w2 (w.heap.size + 1 + 1 + 1) _ ha2 (ho2.mono (by omega)) hn2.ok hn2.v s2' (by omega))
    have HL2 := hide hl2
    clear x0 x1 y0 y1 hb2 ho2 ha2 hn2 hsz2 hl2
    go_wp2_with fail
    refine (unhide HF).mono ?_
    rintro e w9 ⟨a3, n3, c3, ts, rfl, hb3, ho3, ha3, hn3⟩
    have hans : Ans true ((Nat.gcd (val xs).toNat (val ys).toNat : Nat) : Int) (sd false ((Nat.gcd (val xs).toNat (val ys).toNat : Nat) : Int)) ts true := by
      refine .inl ⟨rfl, ts, ?_, .inl ⟨?_, rfl, rfl, rfl⟩⟩
      · rw [Int.natAbs_natCast]; exact hn3
      · rw [hn3.same (unhide HN2)]; exact unhide HL2
    replace r0 := cell_later hb3 r0
    replace r1 := cell_later hb3 r1
    replace f0 : ∀ o, w9.frozen? ⟨w.heap.size + 1 + 1, o, none⟩ = false := fun o => frozen_later hb3 (by omega) (f0 o)
    replace HB := hide (below_on (unhide HB) hb3)
    have HO := hide ho3
    have HA := hide ha3
    have HS := hide hans
    clear hb3 ho3 ha3 hans HF
    go_wp2
    exact bodyPost_ret (v := .tuple #[.agg #[.bool (sd false ((Nat.gcd (val xs).toNat (val ys).toNat : Nat) : Int)), .slice a3 n3 c3], .bool true]) (by simp [results, Try.results14, go_sem, r0, r1]) rfl (outA_of (s := w.heap.size + 1 + 1) (by omega) (unhide HB) (unhide HO) (unhide HA) (unhide HS) _ _)

set_option maxHeartbeats 4000000 in
theorem GcdS_any (g g' : Bool) (a a' : Option Addr) (n m c c' : Nat) (xs ys : List Int) (w : World) (hx : Arg w a n c xs) (hy : Arg w a' m c' ys) :
    Calls Try.prog 15 #[.agg #[.bool g, .slice a n c], .agg #[.bool g', .slice a' m c']] w (OutA w (goodB g xs && goodB g' ys) (((Nat.gcd (val xs).toNat (val ys).toNat : Nat) : Int))) := by
  have HX := hide hx
  have HY := hide hy
  clear hx hy
  have B3 := hide (below_three w (.cells #[.bool g, .slice a n c] 25) (.cells #[.bool g', .slice a' m c'] 25) (.cells #[.bool false, .slice none 0 0] 25))
  have mx := hide (Nat.le_trans (unhide HX).cap (unhide HX).top)
  have my := hide (Nat.le_trans (unhide HY).cap (unhide HY).top)
  cases hg1 : goodB g xs
  · rw [Bool.false_and]
    go_enter Try.func15, Try.ntmps15
    go_wp2_with fail
    refine (goodS_any g a n c xs _ ((unhide HX).later (unhide B3)).sl (unhide HX).len (unhide mx)).mono ?_
    rintro e w1 ⟨rfl, hb1⟩
    have r0 : w1.cell? ⟨w.heap.size + 1 + 1, 0, none⟩ = some (.bool false) := cell_later hb1 (by simp [go_sem])
    have r1 : w1.cell? ⟨w.heap.size + 1 + 1, 1, none⟩ = some (.slice none 0 0) := cell_later hb1 (by simp [go_sem])
    have f0 : ∀ o, w1.frozen? ⟨w.heap.size + 1 + 1, o, none⟩ = false := fun o => frozen_later hb1 (by simp) (by simp [go_sem])
    have HB := hide ((unhide B3).trans (hb1.mono (by simp <;> omega)))
    clear hb1
    go_wp2
    exact bodyPost_ret (v := .tuple #[.agg #[.bool false, .slice none 0 0], .bool false]) (by simp [results, Try.results15, go_sem, r0, r1]) rfl (outA_no (s := w.heap.size + 1 + 1) (by omega) (unhide HB) _ _)
  · rw [Bool.true_and]
    have NX := hide (num_of_good (unhide HX) hg1)
    cases hg2 : goodB g' ys
    · go_enter Try.func15, Try.ntmps15
      go_wp2_with fail
      refine (goodS_any g a n c xs _ ((unhide HX).later (unhide B3)).sl (unhide HX).len (unhide mx)).mono ?_
      rintro e w1 ⟨rfl, hb1⟩
      have y0 : w1.cell? ⟨w.heap.size + 1, 0, none⟩ = some (.bool g') := cell_later hb1 (by simp [go_sem])
      have y1 : w1.cell? ⟨w.heap.size + 1, 1, none⟩ = some (.slice a' m c') := cell_later hb1 (by simp [go_sem])
      have r0 : w1.cell? ⟨w.heap.size + 1 + 1, 0, none⟩ = some (.bool false) := cell_later hb1 (by simp [go_sem])
      have r1 : w1.cell? ⟨w.heap.size + 1 + 1, 1, none⟩ = some (.slice none 0 0) := cell_later hb1 (by simp [go_sem])
      have f0 : ∀ o, w1.frozen? ⟨w.heap.size + 1 + 1, o, none⟩ = false := fun o => frozen_later hb1 (by simp) (by simp [go_sem])
      have s1 : w.heap.size + 1 + 1 + 1 ≤ w1.heap.size := by have := hb1.size; simp at this; omega
      have HB := hide ((unhide B3).trans (hb1.mono (by simp <;> omega)))
      clear hb1
      go_wp2_with fail
      refine (goodS_any g' a' m c' ys _ ((unhide HY).later (unhide HB)).sl (unhide HY).len (unhide my)).mono ?_
      rintro e w2 ⟨rfl, hb2⟩
      replace r0 := cell_later hb2 r0
      replace r1 := cell_later hb2 r1
      replace f0 : ∀ o, w2.frozen? ⟨w.heap.size + 1 + 1, o, none⟩ = false := fun o => frozen_later hb2 (by omega) (f0 o)
      replace HB := hide (below_on (unhide HB) hb2)
      clear hb2
      go_wp2
      exact bodyPost_ret (v := .tuple #[.agg #[.bool false, .slice none 0 0], .bool false]) (by simp [results, Try.results15, go_sem, r0, r1]) rfl (outA_no (s := w.heap.size + 1 + 1) (by omega) (unhide HB) _ _)
    · have NY := hide (num_of_good (unhide HY) hg2)
      have NL : Hid (n ≤ 40) := hide (by have := (good_parts hg1).2.2.1; have := (unhide HX).len; omega)
      have ML : Hid (m ≤ 40) := hide (by have := (good_parts hg2).2.2.1; have := (unhide HY).len; omega)
      go_enter Try.func15, Try.ntmps15
      go_wp2_with fail
      refine (goodS_any g a n c xs _ ((unhide HX).later (unhide B3)).sl (unhide HX).len (unhide mx)).mono ?_
      rintro e w1 ⟨rfl, hb1⟩
      have x0 : w1.cell? ⟨w.heap.size, 0, none⟩ = some (.bool g) := cell_later hb1 (by simp [go_sem])
      have x1 : w1.cell? ⟨w.heap.size, 1, none⟩ = some (.slice a n c) := cell_later hb1 (by simp [go_sem])
      have y0 : w1.cell? ⟨w.heap.size + 1, 0, none⟩ = some (.bool g') := cell_later hb1 (by simp [go_sem])
      have y1 : w1.cell? ⟨w.heap.size + 1, 1, none⟩ = some (.slice a' m c') := cell_later hb1 (by simp [go_sem])
      have r0 : w1.cell? ⟨w.heap.size + 1 + 1, 0, none⟩ = some (.bool false) := cell_later hb1 (by simp [go_sem])
      have r1 : w1.cell? ⟨w.heap.size + 1 + 1, 1, none⟩ = some (.slice none 0 0) := cell_later hb1 (by simp [go_sem])
      have f0 : ∀ o, w1.frozen? ⟨w.heap.size + 1 + 1, o, none⟩ = false := fun o => frozen_later hb1 (by simp) (by simp [go_sem])
      have s1 : w.heap.size + 1 + 1 + 1 ≤ w1.heap.size := by have := hb1.size; simp at this; omega
      have HB := hide ((unhide B3).trans (hb1.mono (by simp <;> omega)))
      clear hb1
      go_wp2_with fail
      refine (goodS_any g' a' m c' ys _ ((unhide HY).later (unhide HB)).sl (unhide HY).len (unhide my)).mono ?_
      rintro e w2 ⟨rfl, hb2⟩
      replace x0 := cell_later hb2 x0
      replace x1 := cell_later hb2 x1
      replace y0 := cell_later hb2 y0
      replace y1 := cell_later hb2 y1
      replace r0 := cell_later hb2 r0
      replace r1 := cell_later hb2 r1
      replace f0 : ∀ o, w2.frozen? ⟨w.heap.size + 1 + 1, o, none⟩ = false := fun o => frozen_later hb2 (by omega) (f0 o)
      replace HB := hide (below_on (unhide HB) hb2)
      have s2 : w.heap.size + 1 + 1 + 1 ≤ w2.heap.size := Nat.le_trans s1 hb2.size
      clear hb2 s1
      go_wp2_with fail
      refine (gcdS_any a a' n m c c' xs ys _ ((unhide HX).later (unhide HB)) ((unhide HY).later (unhide HB)) (unhide NX).ok (unhide NX).tr (unhide NY).ok (unhide NY).tr (by have := unhide NL; omega) (by have := unhide ML; omega)).mono ?_
      rintro e w3 ⟨a2, n2, c2, zs, rfl, hb2, ho2, ha2, hn2⟩
      replace r0 := cell_later hb2 r0
      replace r1 := cell_later hb2 r1
      have f0' := f0
      clear f0
      have f0 : ∀ o, w3.frozen? ⟨w.heap.size + 1 + 1, o, none⟩ = false := fun o => frozen_later hb2 (by omega) (f0' o)
      clear f0'
      replace HB := hide (below_on (unhide HB) hb2)
      have hsz2 := hb2.size
      have s3' : w.heap.size + 1 + 1 + 1 ≤ w3.heap.size := by omega
      have hl2 : zs.length ≤ 40 := gcd_short (unhide NX).ok (unhide NY).ok (by rw [(unhide NX).arg.len]; exact unhide NL) (by rw [(unhide NY).arg.len]; exact unhide ML) hn2
      have hnn : n2 ≤ 40 := by rw [← ha2.len]; exact hl2
      have HN2 := hide hn2
      have HF := hide (signS_out false a2 n2 c2 zs w3 (w.heap.size + 1 + 1 + 1) _ ha2 (ho2.mono (by omega)) hn2.ok hn2.v s3' (by omega))
      have HL2 := hide hl2
      clear x0 x1 y0 y1 hb2 ho2 ha2 hn2 hsz2 hl2
      go_wp2_with fail
      refine (unhide HF).mono ?_
      rintro e w9 ⟨a3, n3, c3, ts, rfl, hb3, ho3, ha3, hn3⟩
      have hans : Ans true ((Nat.gcd (val xs).toNat (val ys).toNat : Nat) : Int) (sd false ((Nat.gcd (val xs).toNat (val ys).toNat : Nat) : Int)) ts true := by
        refine .inl ⟨rfl, ts, ?_, .inl ⟨?_, rfl, rfl, rfl⟩⟩
        · rw [Int.natAbs_natCast]; exact hn3
        · rw [hn3.same (unhide HN2)]; exact unhide HL2
      replace r0 := cell_later hb3 r0
      replace r1 := cell_later hb3 r1
      replace f0 : ∀ o, w9.frozen? ⟨w.heap.size + 1 + 1, o, none⟩ = false := fun o => frozen_later hb3 (by omega) (f0 o)
      replace HB := hide (below_on (unhide HB) hb3)
      have HO := hide ho3
      have HA := hide ha3
      have HS := hide hans
      clear hb3 ho3 ha3 hans HF
      go_wp2
      exact bodyPost_ret (v := .tuple #[.agg #[.bool (sd false ((Nat.gcd (val xs).toNat (val ys).toNat : Nat) : Int)), .slice a3 n3 c3], .bool true]) (by simp [results, Try.results15, go_sem, r0, r1]) rfl (outA_of (s := w.heap.size + 1 + 1) (by omega) (unhide HB) (unhide HO) (unhide HA) (unhide HS) _ _)
end Go.Proofs.Ytagnhgefdcckoaa
namespace Go.Proofs.Ytagnhgefdcckoaa
open Go.RowKit
set_option linter.unusedVariables false
set_option maxRecDepth 100000
set_option linter.unusedSimpArgs false

set_option maxHeartbeats 8000000 in
theorem intS_loop (g : Bool) (a : Option Addr) (n c : Nat) (xs : List Int) (w : World) (hx : Arg w a n c xs) (hg : goodB g xs = true) (hn4 : n ≤ 4) :
    Calls Try.prog 22 #[.agg #[.bool g, .slice a n c]] w fun e w' => e = .returned (.tuple #[.int .i64 (intV g xs), .bool (intOk g xs)]) ∧ Below w.heap.size w w' := by
  have HX := hide hx
  have HG := hide hg
  have ox := (good_parts hg).1
  have TX := hide (good_parts hg).2.1
  clear hx
  have d1 : ¬ ((4 : Int) < (n : Int)) := by omega
  go_enter Try.func22, Try.ntmps22
  go_wp2_with fail
  refine (goodS_any g a n c xs _ ((unhide HX).later ((Below.refl _ _).alloc (Nat.le_refl _) _)).sl (unhide HX).len (Nat.le_trans (unhide HX).cap (unhide HX).top)).mono ?_
  rintro e w1 ⟨rfl, hb1⟩
  have x0 : w1.cell? ⟨w.heap.size, 0, none⟩ = some (.bool g) := cell_later hb1 (by simp [go_sem])
  have x1 : w1.cell? ⟨w.heap.size, 1, none⟩ = some (.slice a n c) := cell_later hb1 (by simp [go_sem])
  have HB := hide (below_one' hb1)
  clear hb1
  rw [hg]
  clear hg
  go_wp2_with fail
  refine (bigOfS_any _ w1 (by omega) (by omega)).mono ?_
  rintro e w2 ⟨a2, n2, c2, zs, rfl, hb2, ho2, ha2, hn2⟩
  have AL : Hid (∀ o, Below w2.heap.size w2 (w2.alloc o)) := hide (fun o => (Below.refl _ _).alloc (Nat.le_refl _) _)
  replace x0 := cell_later hb2 x0
  replace x1 := cell_later hb2 x1
  replace HB := hide (below_on (unhide HB) hb2)
  have HA2 := hide ha2
  have HZ : Hid (Nm zs 4611686018427387904) := hide (by simpa using hn2)
  have SX := hide ((unhide HX).later (unhide HB))
  have hzz : w.heap.size < w2.heap.size := World.block_lt_of_cell? _ _ x1
  clear hb2 ho2 ha2 hn2
  go_wp2_with fail
  refine (cmpS_any a a2 n n2 c c2 xs zs _ ((unhide SX).later (unhide AL _)).sl ((unhide HA2).later (unhide AL _)).sl (unhide HX).len (unhide HA2).len (Nat.le_trans (unhide HX).cap (unhide HX).top) (Nat.le_trans (unhide HA2).cap (unhide HA2).top)).mono ?_
  rintro e w3 ⟨rfl, hb3⟩
  have CV := hide (cmpL_val ox (unhide HZ).ok (unhide TX) (unhide HZ).tr)
  have B3 := hide (below_on (unhide AL _) hb3)
  replace x0 := cell_later (unhide B3) x0
  replace x1 := cell_later (unhide B3) x1
  replace HB := hide (below_on (unhide HB) (unhide B3))
  replace SX := hide ((unhide SX).later (unhide B3))
  clear hb3 B3 AL
  generalize cmpL xs zs = cm at *
  have hcm : 0 < cm ↔ 4611686018427387904 < val xs := by have := (unhide CV).2; rw [(unhide HZ).v] at this; exact this
  by_cases hbig : 0 < cm
  · have h2 := hide (int_great (g := g) (xs := xs) (hcm.1 hbig))
    clear hcm
    go_wp2
    go_ret2
    exact ⟨ret_pair (int_no (unhide h2)).symm (unhide h2).symm, unhide HB⟩
  · have hfit : val xs ≤ 4611686018427387904 := by omega
    have h2 := hide (int_fits (unhide HG) hfit)
    have HFit := hide hfit
    clear hcm hfit
    go_wp2
    go_loop [5, 6] (fun nv iv => ∃ (k : Nat) (N : Int), k ≤ n ∧ iv = .int .i64 ((k : Int) - 1) ∧ nv = .int .i64 N ∧ 0 ≤ N ∧ N ≤ 4611686018427387904 ∧ Hid (N = val (xs.drop k))) (fun _ iv => (intOf iv + 1).toNat)
    case atStart => exact ⟨n, 0, Nat.le_refl _, rfl, rfl, by omega, by omega, hide (by rw [List.drop_of_length_le (by rw [(unhide HX).len]; exact Nat.le_refl _)]; rfl)⟩
    case round =>
      obtain ⟨k, N, hk, hi, rfl, N0, N1, HN⟩ := hrel
      cases k with
      | zero =>
        have e : (((0 : Nat) : Int) - 1) = -1 := by omega
        rw [e] at hi
        subst hi
        have HNv : Hid (N = val xs) := hide (by rw [unhide HN]; rfl)
        cases g
        · go_wp2
          go_ret2
          exact ⟨ret_pair (by rw [int_yes (unhide h2), unhide HNv]; rfl) (unhide h2).symm, unhide HB⟩
        · go_wp2
          go_ret2
          exact ⟨ret_pair (by rw [int_yes (unhide h2), unhide HNv]; rfl) (unhide h2).symm, unhide HB⟩
      | succ j =>
        have e : (((j + 1 : Nat) : Int) - 1) = j := by omega
        rw [e] at hi
        subst hi
        obtain ⟨b, off, rfl, hcx⟩ := (unhide SX).sl.at (k := j) (by rw [(unhide HX).len]; omega)
        have hxb := okL_get ox j
        have HD := hide (drop_succ (xs := xs) (k := j) (by rw [(unhide HX).len]; omega))
        have HL := hide (Int.le_trans (val_drop_le ox j) (unhide HFit))
        generalize xs.getD j 0 = x at *
        obtain ⟨hx0, hx1⟩ := hxb
        have hk1 : (j : Int) < (n : Int) := by omega
        have hN : N * 65536 + x ≤ 4611686018427387904 := by have h7 := unhide HL; rw [unhide HD, ← unhide HN] at h7; omega
        clear e
        go_wp2
        go_round
        case rel => exact ⟨j, _, by omega, rfl, rfl, by omega, by omega, hide (by rw [unhide HD, ← unhide HN]; omega)⟩
        case measure => simp [intOf]
set_option maxHeartbeats 4000000 in
theorem intS_any (g : Bool) (a : Option Addr) (n c : Nat) (xs : List Int) (w : World) (hx : Arg w a n c xs) (h1 : n ≤ 1048576) :
    Calls Try.prog 22 #[.agg #[.bool g, .slice a n c]] w fun e w' => e = .returned (.tuple #[.int .i64 (intV g xs), .bool (intOk g xs)]) ∧ Below w.heap.size w w' := by
  cases hg : goodB g xs
  · have h2 := int_bad hg
    rw [int_no h2, h2]
    have HX := hide hx
    clear hx h2
    go_enter Try.func22, Try.ntmps22
    go_wp2_with fail
    refine (goodS_any g a n c xs _ ((unhide HX).later ((Below.refl _ _).alloc (Nat.le_refl _) _)).sl (unhide HX).len (Nat.le_trans (unhide HX).cap (unhide HX).top)).mono ?_
    rintro e w1 ⟨rfl, hb1⟩
    rw [hg]
    have HB := hide (below_one' hb1)
    clear hb1 hg
    go_wp2
    go_ret2
    exact ⟨rfl, unhide HB⟩
  · by_cases h4 : n ≤ 4
    · exact intS_loop g a n c xs w hx hg h4
    · have h2 := int_long hg (by rw [hx.len]; omega)
      rw [int_no h2, h2]
      have HX := hide hx
      clear hx h2
      have d1 : (4 : Int) < (n : Int) := by omega
      go_enter Try.func22, Try.ntmps22
      go_wp2_with fail
      refine (goodS_any g a n c xs _ ((unhide HX).later ((Below.refl _ _).alloc (Nat.le_refl _) _)).sl (unhide HX).len (Nat.le_trans (unhide HX).cap (unhide HX).top)).mono ?_
      rintro e w1 ⟨rfl, hb1⟩
      rw [hg]
      have x1 : w1.cell? ⟨w.heap.size, 1, none⟩ = some (.slice a n c) := cell_later hb1 (by simp [go_sem])
      have HB := hide (below_one' hb1)
      clear hb1 hg
      go_wp2
      go_ret2
      exact ⟨rfl, unhide HB⟩

end Go.Proofs.Ytagnhgefdcckoaa
namespace Go.Proofs.Ytagnhgefdcckoaa
open Go.RowKit
set_option linter.unusedVariables false
set_option maxRecDepth 100000
set_option linter.unusedSimpArgs false

theorem made_owns (w : World) (b n : Nat) (hm : b + n ≤ maxLen) : (w.alloc (.cells (madeCells #[.int .i64 0] (b + n)) 3)).ownsRow w.heap.size 3 1 (.slice (some ⟨w.heap.size, 0, none⟩) b (b + n)) b ((List.replicate b 0).map (Value.int .i64)) := by
  refine ⟨by simp, .inr ⟨w.heap.size, b + n, madeCells #[.int .i64 0] (b + n), rfl, Nat.le_refl _, ?_, by omega, hm, by simp [size_madeCells], ?_⟩⟩
  · show (w.heap.push _)[w.heap.size]? = _
    simp
  · rw [made_ints]
    rw [← List.map_take, List.take_replicate]
    congr 2
    omega
theorem val_zeros (n : Nat) (xs : List Int) : val (List.replicate n 0 ++ xs) = 65536 ^ n * val xs := by
  induction n with
  | zero => simp
  | succ n ih => simp only [List.replicate_succ, List.cons_append, val, ih, Int.pow_succ, Int.mul_comm (65536 ^ n) 65536, Int.mul_assoc]; omega
theorem okL_zeros (n : Nat) {xs : List Int} (h : okL xs) : okL (List.replicate n 0 ++ xs) := okL_append (fun x hx => by rw [List.eq_of_mem_replicate hx]; omega) h

set_option maxHeartbeats 2000000 in
theorem shiftI_any (a : Option Addr) (n c b : Nat) (xs : List Int) (w : World) (hx : Arg w a n c xs) (ox : okL xs) (h1 : n ≤ 500000) (hb : b ≤ 500000) :
    Calls Try.prog 102 #[.slice a n c, .int .i64 b] w (OutU w (65536 ^ b * val xs) (b + n)) := by
  obtain ⟨i0, hi, hz0, hz1, hz2⟩ := info_parts Try.info3
  have hmk : ∀ w, (Instr.makeSlice 23 (.int .i64 (b : Int)) (.int .i64 ((b : Int) + (n : Int)))).run Try.prog w = .ok (.slice (some ⟨w.heap.size, 0, none⟩) b (b + n)) (w.alloc (.cells (madeCells #[.int .i64 0] (b + n)) 3)) := by
    intro w
    have := run_make (P := Try.prog) w 23 3 i0 (.int .i64 0) Try.underlying23 hi hz0 .i64 .i64 (b : Int) ((b : Int) + (n : Int)) (by omega) (by omega) (by rw [hz2]; omega) (by omega)
    rw [this, hz1]
    simp [show ((b : Int) + (n : Int)).toNat = b + n by omega, Value.cells]
  have hown := hide (made_owns w b n (by unfold maxLen; omega))
  have hnone : Hid (a = none → n = 0 ∧ c = 0) := hide (fun e => by
    rcases hx.addr with ⟨_, hc⟩ | ⟨_, _, h'⟩
    · exact ⟨by have := hx.cap; omega, hc⟩
    · rw [e] at h'; cases h')
  have hcells : Hid (∀ ad, a = some ad → ∀ j u, (xs.map (Value.int .i64))[j]? = some u → (w.alloc (.cells (madeCells #[.int .i64 0] (b + n)) 3)).cell? (ad.add j) = some u) := hide (by
    intro ad e j u hj
    rcases hx.sl with rfl | ⟨b', off', e', hb', hc⟩
    · simp at hj
    · rw [e] at e'
      cases e'
      have := cells_at (w := w.alloc (.cells (madeCells #[.int .i64 0] (b + n)) 3)) (b := b') (off := off') (k := xs.length) (xs := xs) (fun i hi => by
        rw [← hc i hi]; exact ((Below.refl _ _).alloc (Nat.le_refl _) _).cell (by exact hb')) (Nat.le_refl _)
      rw [List.take_length] at this
      exact this j u hj)
  have hlen := hide (show (xs.map (Value.int .i64)).length = n * 1 by simp; exact hx.len)
  have HL := hide hx.len
  clear hx
  go_enter Try.func102, Try.ntmps102
  go_wp2_with (at_builtin; refine wpList_append_fits_any _ rfl (.tmp 10) (.tmp 11) 23 rfl w.heap.size 3 i0 1 Try.underlying23 hi hz1 w.heap.size b (b + n) _ rfl (unhide hown) a n c (xs.map (Value.int .i64)) rfl (unhide hlen) (unhide hnone) (unhide hcells) (one_cells _) (Nat.le_refl _) ?_)
  intro w1 hown1 hg
  have HR : Hid (w1.ownsRow w.heap.size 3 1 (.slice (some ⟨w.heap.size, 0, none⟩) (b + n) (b + n)) (b + n) ((List.replicate b 0 ++ xs).map (Value.int .i64))) := hide (by simpa using hown1)
  have HB := hide (below_alloc_grown hg (fun k e => by simp at e; omega))
  clear hown1 hg hmk
  go_wp2
  go_ret
  have hl : (List.replicate b 0 ++ xs).length = b + n := by simp; exact unhide HL
  have ho := Own.of_owns (unhide HR) hl
  exact ⟨_, _, _, _, rfl, unhide HB, ho, ⟨ho.sl, hl, Nat.le_refl _, by unfold maxLen; omega, .inr ⟨_, _, rfl⟩⟩, okL_zeros b ox, val_zeros b xs, by rw [hl]; exact Nat.le_refl _⟩

set_option maxHeartbeats 2000000 in
theorem parts_le (bb off n c h : Nat) (xs : List Int) (w : World) (hs : Sl w (some ⟨bb, off, none⟩) xs) (hn : xs.length = n) (hnc : n ≤ c) (hcm : c ≤ maxLen) (hh : h ≤ n) :
    Calls Try.prog 99 #[.slice (some ⟨bb, off, none⟩) n c, .int .i64 h] w fun e w' => ∃ a1 n1 c1 a2 c2, e = .returned (.tuple #[.slice a1 n1 c1, .slice a2 (n - h) c2]) ∧ Below w.heap.size w w' ∧ Arg w' a1 n1 c1 (trim (xs.take h)) ∧ Arg w' a2 (n - h) c2 (xs.drop h) := by
  unfold maxLen at hcm
  have HS := hide hs
  have HN := hide hn
  clear hs hn
  have h1 : (h : Int) ≤ (n : Int) := by omega
  have h2 : (0 : Int) ≤ (h : Int) := by omega
  have h3 : (n : Int) ≤ (c : Int) := by omega
  have h4 : (h : Int) ≤ (c : Int) := by omega
  have h5 : h ≤ c := by omega
  have HT : Hid ((xs.take h).length = h) := hide (by rw [List.length_take, unhide HN]; omega)
  have HD : Hid ((xs.drop h).length = n - h) := hide (by rw [List.length_drop, unhide HN])
  by_cases hch : c = h
  · subst hch
    obtain rfl : n = c := by omega
    have HE : Hid (xs.drop n = []) := hide (List.drop_of_length_le (by rw [unhide HN]; exact Nat.le_refl _))
    go_enter Try.func99, Try.ntmps99
    go_upto_region 2 with fail
    go_region_with (first
      | (go_at_call 98; refine (trim_any _ n n (xs.take n) _ ?_).mono ?_; exact ⟨((unhide HS).take n).drew, unhide HT, by omega, by unfold maxLen; omega, .inr ⟨_, _, rfl⟩⟩; rintro e w1 ⟨a1, n1, c1, rfl, rfl, harg, hown⟩; have HA := hide harg; clear harg hown))
    all_goals go_wp2
    all_goals go_ret2
    all_goals exact ⟨a1, n1, c1, some ⟨bb, off, none⟩, 0, by rw [Nat.sub_self]; rfl, (Below.refl _ _).drew, unhide HA _ ⟨((unhide HS).take n).drew, unhide HT, by omega, by unfold maxLen; omega, .inr ⟨_, _, rfl⟩⟩, ⟨by rw [unhide HE]; exact .inl rfl, unhide HD, by omega, Nat.zero_le _, .inr ⟨_, _, rfl⟩⟩⟩
  · have HSd : Hid (Sl w (some ⟨bb, off + h, none⟩) (xs.drop h)) := hide (by
      rcases unhide HS with rfl | ⟨b', off', e, hb, hc⟩
      · exact .inl (by simp)
      · cases e
        refine .inr ⟨bb, off + h, rfl, hb, fun i hi => ?_⟩
        rw [List.length_drop] at hi
        have := hc (h + i) (by omega)
        rw [show off + h + i = off + (h + i) by omega, this]
        simp only [List.getD_eq_getElem?_getD, List.getElem?_drop])
    go_enter Try.func99, Try.ntmps99
    go_upto_region 2 with fail
    go_region_with (first
      | (go_at_call 98; refine (trim_any _ h c (xs.take h) _ ?_).mono ?_; exact ⟨((unhide HS).take h).drew, unhide HT, by omega, by unfold maxLen; omega, .inr ⟨_, _, rfl⟩⟩; rintro e w1 ⟨a1, n1, c1, rfl, rfl, harg, hown⟩; have HA := hide harg; clear harg hown))
    all_goals go_wp2
    all_goals go_ret2
    all_goals exact ⟨a1, n1, c1, _, _, rfl, (Below.refl _ _).drew, unhide HA _ ⟨((unhide HS).take h).drew, unhide HT, by omega, by unfold maxLen; omega, .inr ⟨_, _, rfl⟩⟩, ⟨(unhide HSd).drew, unhide HD, by omega, by unfold maxLen; omega, .inr ⟨_, _, rfl⟩⟩⟩

set_option maxHeartbeats 2000000 in
theorem parts_none (h : Nat) (w : World) (hh : h ≤ 1000000) :
    Calls Try.prog 99 #[.slice none 0 0, .int .i64 h] w fun e w' => e = .returned (.tuple #[.slice none 0 0, .slice none 0 0]) ∧ Below w.heap.size w w' := by
  by_cases h0 : h = 0
  · subst h0
    go_enter Try.func99, Try.ntmps99
    go_upto_region 2 with fail
    go_region_with (first
      | (go_at_call 98; refine (trim_nil_any _ _ _).mono ?_; rintro e w1 ⟨rfl, rfl⟩))
    all_goals go_wp2
    all_goals go_ret2
    all_goals exact ⟨rfl, (Below.refl _ _).drew⟩
  · have h1 : ¬ (h : Int) ≤ 0 := by omega
    go_enter Try.func99, Try.ntmps99
    go_upto_region 2 with fail
    go_region_with (first
      | (go_at_call 98; refine (trim_nil_any _ _ _).mono ?_; rintro e w1 ⟨rfl, rfl⟩))
    all_goals go_wp2
    all_goals go_ret2
    all_goals exact ⟨rfl, (Below.refl _ _).drew⟩
set_option maxHeartbeats 2000000 in
theorem parts_gt (bb off n c h : Nat) (xs : List Int) (w : World) (hs : Sl w (some ⟨bb, off, none⟩) xs) (hn : xs.length = n) (hnc : n ≤ c) (hcm : c ≤ maxLen) (hh : n < h) (hh2 : h ≤ 1000000) :
    Calls Try.prog 99 #[.slice (some ⟨bb, off, none⟩) n c, .int .i64 h] w fun e w' => ∃ a1 n1 c1 a2 c2, e = .returned (.tuple #[.slice a1 n1 c1, .slice a2 0 c2]) ∧ Below w.heap.size w w' ∧ Arg w' a1 n1 c1 (trim xs) ∧ Arg w' a2 0 c2 [] := by
  unfold maxLen at hcm
  have HS := hide hs
  have HN := hide hn
  clear hs hn
  have h1 : ¬ (h : Int) ≤ (n : Int) := by omega
  have h1' : (n : Int) < (h : Int) := by omega
  have h3 : (n : Int) ≤ (c : Int) := by omega
  by_cases hch : c = n
  · subst hch
    go_enter Try.func99, Try.ntmps99
    go_upto_region 2 with fail
    go_region_with (first
      | (go_at_call 98; refine (trim_any _ c c xs _ ?_).mono ?_; exact ⟨(unhide HS).drew, unhide HN, by omega, by unfold maxLen; omega, .inr ⟨_, _, rfl⟩⟩; rintro e w1 ⟨a1, n1, c1, rfl, rfl, harg, hown⟩; have HA := hide harg; clear harg hown))
    all_goals go_wp2
    all_goals go_ret2
    all_goals exact ⟨a1, n1, c1, some ⟨bb, off, none⟩, 0, rfl, (Below.refl _ _).drew, unhide HA _ ⟨(unhide HS).drew, unhide HN, by omega, by unfold maxLen; omega, .inr ⟨_, _, rfl⟩⟩, ⟨.inl rfl, rfl, by omega, by unfold maxLen; omega, .inr ⟨_, _, rfl⟩⟩⟩
  · go_enter Try.func99, Try.ntmps99
    go_upto_region 2 with fail
    go_region_with (first
      | (go_at_call 98; refine (trim_any _ n c xs _ ?_).mono ?_; exact ⟨(unhide HS).drew, unhide HN, by omega, by unfold maxLen; omega, .inr ⟨_, _, rfl⟩⟩; rintro e w1 ⟨a1, n1, c1, rfl, rfl, harg, hown⟩; have HA := hide harg; clear harg hown))
    all_goals go_wp2
    all_goals go_ret2
    all_goals exact ⟨a1, n1, c1, some ⟨bb, off + n, none⟩, c - n, rfl, (Below.refl _ _).drew, unhide HA _ ⟨(unhide HS).drew, unhide HN, by omega, by unfold maxLen; omega, .inr ⟨_, _, rfl⟩⟩, ⟨.inl rfl, rfl, by omega, by unfold maxLen; omega, .inr ⟨_, _, rfl⟩⟩⟩
end Go.Proofs.Ytagnhgefdcckoaa

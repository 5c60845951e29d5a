/- The contracts of chapter 1 in the words of a law's walk. No condition beyond those typed. -/
import Derived.Test.YtagnhgefdcckoaaRatF
import Derived.Test.YtagnhgefdcckoaaVarB
import Derived.Test.YtagnhgefdcckoaaSubI
import Derived.Test.YtagnhgefdcckoaaVarQ
import Derived.Test.YtagnhgefdcckoaaDivJ
import Derived.Test.YtagnhgefdcckoaaCmp
import Derived.Test.YtagnhgefdcckoaaPackM7
import Derived.Test.YtagnhgefdcckoaaPackH7
import Derived.Test.YtagnhgefdcckoaaLaw2
import Derived.Deep.QuietTactic
import Derived.BigQuiet
import Derived.Test.YtagnhgefdcckoaaFlat
import Derived.Deep.RegionLaw
import Derived.Deep.AppendLies
import Derived.Test.YtagnhgefdcckoaaAddS
import Derived.Test.YtagnhgefdcckoaaDivK
import Derived.Test.YtagnhgefdcckoaaBigOfI
import Derived.Test.YtagnhgefdcckoaaDivI
import Derived.Test.YtagnhgefdcckoaaEq
namespace Go.Proofs.Ytagnhgefdcckoaa
open Go.RowKit
set_option linter.unusedVariables false
set_option maxRecDepth 100000
set_option linter.unusedSimpArgs false

def RetB (w : World) (U : BD → Bool → Prop) (e : Ending) (w' : World) : Prop := ∃ (v : BV) (d : BD) (ok : Bool), e = .returned (.tuple #[.agg #[.bool v.g, .slice v.a v.n v.c], .bool ok]) ∧ Below w.heap.size w w' ∧ AllOwn w.heap.size w'.heap.size w' [(v, d)] ∧ U d ok
def AnsB (P : Bool) (V : Int) (d : BD) (ok : Bool) : Prop := (P = true ∧ ok = true ∧ d.g = decide (V < 0) ∧ Nm d.xs V.natAbs ∧ d.xs.length ≤ 40) ∨ (P = false ∧ ok = false ∧ d = ⟨false, []⟩)
theorem AnsB.same {P : Bool} {V : Int} {d d' : BD} {ok ok' : Bool} (h : AnsB P V d ok) (k : AnsB P V d' ok') : d = d' ∧ ok = ok' := by
  obtain ⟨g, xs⟩ := d
  obtain ⟨g', xs'⟩ := d'
  rcases h with ⟨p, o, a, b, _⟩ | ⟨p, o, e⟩ <;> rcases k with ⟨p', o', a', b', _⟩ | ⟨p', o', e'⟩
  · simp only at a b a' b'
    rw [a, a', b.same b']
    exact ⟨rfl, o.trans o'.symm⟩
  · rw [p] at p'; cases p'
  · rw [p] at p'; cases p'
  · exact ⟨e.trans e'.symm, o.trans o'.symm⟩
theorem AnsB.lens {P : Bool} {V : Int} {d : BD} {ok : Bool} (h : AnsB P V d ok) : d.xs.length ≤ 40 := by
  rcases h with ⟨_, _, _, _, h⟩ | ⟨_, _, rfl⟩
  · exact h
  · simp
theorem retB_fin {w wN W : World} {R : Nat} {v : BV} {d : BD} {ok : Bool} {U : BD → Bool → Prop} (hR : w.heap.size ≤ R) (hb : Below w.heap.size w wN) (bt : But R (R + 1) wN W) (ho : AllOwn (R + 1) wN.heap.size wN [(v, d)]) (hu : U d ok) : RetB w U (.returned (.tuple #[.agg #[.bool v.g, .slice v.a v.n v.c], .bool ok])) W :=
  ⟨v, d, ok, rfl, bt.below hb hR hb.size, (own_fin bt ho (Nat.le_refl _)).wide (by omega) bt.size, hu⟩
theorem floor_pos {N D : Int} (hD : 0 < D) (hN : ¬ N < 0) : sU false ((N.natAbs : Int) / (D.natAbs : Int)) = N / D ∧ (N.natAbs : Int) % (D.natAbs : Int) = N % D := by
  rw [show (N.natAbs : Int) = N by omega, show (D.natAbs : Int) = D by omega]
  exact ⟨rfl, rfl⟩
theorem floor_neg0 {N D : Int} (hD : 0 < D) (hN : N < 0) (hr : (N.natAbs : Int) % (D.natAbs : Int) = 0) : sU true ((N.natAbs : Int) / (D.natAbs : Int)) = N / D ∧ (N.natAbs : Int) % (D.natAbs : Int) = N % D := by
  have e1 := Int.emod_add_mul_ediv (N.natAbs : Int) (D.natAbs : Int)
  rw [hr] at e1 ⊢
  rw [show (D.natAbs : Int) = D by omega] at *
  show -((N.natAbs : Int) / D) = N / D ∧ 0 = N % D
  generalize (N.natAbs : Int) / D = k at *
  have := (Int.ediv_emod_unique (a := N) (r := 0) (q := -k) hD).2 ⟨by rw [Int.mul_neg]; omega, by omega, hD⟩
  exact ⟨this.1.symm, this.2.symm⟩
theorem floor_neg {N D : Int} (hD : 0 < D) (hN : N < 0) (hr : (N.natAbs : Int) % (D.natAbs : Int) ≠ 0) : -((N.natAbs : Int) / (D.natAbs : Int) + 1) = N / D ∧ (D.natAbs : Int) - (N.natAbs : Int) % (D.natAbs : Int) = N % D := by
  have e1 := Int.emod_add_mul_ediv (N.natAbs : Int) (D.natAbs : Int)
  have e2 := Int.emod_nonneg (N.natAbs : Int) (show (D.natAbs : Int) ≠ 0 by omega)
  have e3 := Int.emod_lt_of_pos (N.natAbs : Int) (show 0 < (D.natAbs : Int) by omega)
  rw [show (D.natAbs : Int) = D by omega] at *
  generalize (N.natAbs : Int) / D = k at *
  generalize (N.natAbs : Int) % D = r at *
  have := (Int.ediv_emod_unique (a := N) (r := D - r) (q := -(k + 1)) hD).2 ⟨by rw [Int.mul_neg, Int.mul_add, Int.mul_one]; omega, by omega, by omega⟩
  exact ⟨this.1.symm, this.2.symm⟩
theorem floor_abs {N D : Int} (hD : 0 < D) : (N / D).natAbs ≤ N.natAbs ∧ 0 ≤ N % D ∧ N % D < D := by
  have e1 := Int.emod_add_mul_ediv N D
  have e2 := Int.emod_nonneg N (show D ≠ 0 by omega)
  have e3 := Int.emod_lt_of_pos N hD
  refine ⟨?_, e2, e3⟩
  by_cases h : 0 ≤ N
  · have h1 : 0 ≤ N / D := Int.ediv_nonneg h (by omega)
    have h2 : N / D ≤ N := Int.ediv_le_self _ h
    omega
  · have h1 : N / D < 0 := Int.ediv_neg_of_neg_of_pos (by omega) hD
    have h2 : N ≤ N / D := by
      have m := Int.mul_le_mul_of_nonneg_left (show 1 ≤ D by omega) (show 0 ≤ -(N / D + 1) by omega)
      have e4 : -(N / D + 1) * D = -(D * (N / D)) - D := by rw [Int.neg_mul, Int.add_mul, Int.one_mul, Int.mul_comm (N / D) D]; omega
      rw [Int.mul_one, e4] at m
      omega
    omega
/-- A call answers floor and rest. -/
def OutFR (w : World) (N D : Int) (e : Ending) (w' : World) : Prop := ∃ x y : BV, e = .returned (.tuple #[.agg #[.bool x.g, .slice x.a x.n x.c], .agg #[.bool y.g, .slice y.a y.n y.c]]) ∧ Below w.heap.size w w' ∧ Ow w.heap.size w'.heap.size w' x (N / D) ∧ Ow w.heap.size w'.heap.size w' y (N % D)

set_option maxHeartbeats 4000000 in
theorem floorFR (q : QV) (N D : Int) (w : World) (h : IsQ w q N D) (hD : 0 < D) (k1 : Bd N 400000) (k2 : Bd D 400000) : Calls Try.prog 153 #[.agg #[.bool q.num.g, .slice q.num.a q.num.n q.num.c, .bool q.den.g, .slice q.den.a q.den.n q.den.c]] w (OutFR w N D) := by
  obtain ⟨⟨g, a, n, c⟩, b⟩ := q
  obtain ⟨xs, hx, _, hl, nx, sx⟩ := h.1.num k1 (by omega)
  obtain ⟨ys, hy, _, hl', ny, sy⟩ := h.2.num k2 (by omega)
  have hm : 1 ≤ b.n := by have := h.2.zero_iff; simp only at this; omega
  simp only at hx hl sx hy hl' ⊢
  have HX := hide hx.arg
  have HY := hide hy.arg
  have KN := hide k1
  have NX := hide nx
  have NY := hide ny
  clear h hx hy nx ny sy k1 k2
  by_cases hN : N < 0
  · obtain rfl : g = true := by rw [sx]; exact decide_eq_true hN
    clear sx
    by_cases hr : (N.natAbs : Int) % (D.natAbs : Int) = 0
    · have FL := hide (floor_neg0 hD hN hr)
      have HR := hide hr
      clear hr hN
      have B0 := hide (show Below w.heap.size w (((w.alloc (.cells #[.bool true, .slice a n c, .bool b.g, .slice b.a b.n b.c] 50)).alloc (.cells #[.bool false, .slice none 0 0] 25)).alloc (.cells #[.bool false, .slice none 0 0] 25)) from ((((Below.refl _ _).alloc (by simp) _).alloc (by simp) _).alloc (by simp <;> omega) _))
      go_enter Try.func153, Try.ntmps153
      go_wp2_with fail
      refine (divI_any a b.a n b.n c b.c xs ys _ ((unhide HX).later (unhide B0)) ((unhide HY).later (unhide B0)) (unhide NX).ok (unhide NX).tr (unhide NY).ok (unhide NY).tr (by omega) (by omega) (by omega)).mono ?_
      rintro e w1 ⟨a2, n2, c2, zs, a3, n3, c3, rs, rfl, hb, ho2, ha2, hn2, ho3, ha3, hn3, ap⟩
      have s1 : w.heap.size + 3 ≤ w1.heap.size := by have := hb.size; simp at this; omega
      rw [(unhide NX).v, (unhide NY).v] at hn2 hn3
      have N2 := hide hn2
      have N3 := hide hn3
      have ln : n2 ≤ 400000 := by rw [← ha2.len]; exact Nm.len_le (V := (N.natAbs : Int) / (D.natAbs : Int)) (by rw [Int.natAbs_of_nonneg (Int.ediv_nonneg (by omega) (by omega))]; exact hn2) ((unhide KN).le (by have h1 := Int.ediv_le_self (D.natAbs : Int) (show 0 ≤ (N.natAbs : Int) by omega); have h2 := Int.ediv_nonneg (show 0 ≤ (N.natAbs : Int) by omega) (show 0 ≤ (D.natAbs : Int) by omega); omega))
      have l3 : n3 = 0 ↔ (N.natAbs : Int) % (D.natAbs : Int) = 0 := by rw [← ha3.len, List.length_eq_zero_iff]; exact hn3.nil_iff
      obtain rfl : n3 = 0 := l3.2 (unhide HR)
      clear l3
      have k0_0 : w1.cell? ⟨w.heap.size, 0, none⟩ = some (.bool true) := cell_later hb (by simp [go_sem])
      have k1_0 : w1.cell? ⟨w.heap.size + 1, 0, none⟩ = some (.bool false) := cell_later hb (by simp [go_sem])
      have k1_1 : w1.cell? ⟨w.heap.size + 1, 1, none⟩ = some (.slice none 0 0) := cell_later hb (by simp [go_sem])
      have k2_0 : w1.cell? ⟨w.heap.size + 1 + 1, 0, none⟩ = some (.bool false) := cell_later hb (by simp [go_sem])
      have k2_1 : w1.cell? ⟨w.heap.size + 1 + 1, 1, none⟩ = some (.slice none 0 0) := cell_later hb (by simp [go_sem])
      have z1 : ∀ o, w1.frozen? ⟨w.heap.size + 1, o, none⟩ = false := fun o => frozen_later hb (by simp) (by simp [go_sem])
      have z2 : ∀ o, w1.frozen? ⟨w.heap.size + 1 + 1, o, none⟩ = false := fun o => frozen_later hb (by simp) (by simp [go_sem])
      have A2 := hide (ha2)
      have A3 := hide (ha3)
      have O2 := hide (ho2.two)
      have O3 := hide (ho3.two)
      have HB := hide (below_on (unhide B0) hb)
      clear hb
      clear ho2 ha2 hn2 ho3 ha3 hn3 ap
      go_wp2_with fail
      refine (signI_v true a2 n2 c2 zs _ _ _ _ (unhide A2) (unhide O2) (unhide N2)).mono ?_
      rintro e w5 ⟨x1, rfl, hb, ow1, ar1⟩
      have s5 := hb.size
      replace z1 := fun o => frozen_later hb (World.block_lt_of_cell? _ _ k1_0) (z1 o)
      replace z2 := fun o => frozen_later hb (World.block_lt_of_cell? _ _ k2_0) (z2 o)
      replace k1_0 := cell_later hb k1_0
      replace k1_1 := cell_later hb k1_1
      replace k2_0 := cell_later hb k2_0
      replace k2_1 := cell_later hb k2_1
      clear k0_0
      replace A2 := hide ((unhide A2).later hb)
      replace A3 := hide ((unhide A3).later hb)
      replace O2 := hide ((unhide O2).later hb)
      replace O3 := hide ((unhide O3).later hb)
      have OW1 := hide (ow1)
      have AR1 := hide (ar1)
      replace HB := hide (below_on (unhide HB) hb)
      clear hb
      clear ow1 ar1
      go_wp2_with fail
      refine (signI_v false a3 0 c3 rs _ _ _ _ (unhide A3) (unhide O3) (unhide N3)).mono ?_
      rintro e w6 ⟨x2, rfl, hb, ow2, ar2⟩
      have s6 := hb.size
      replace z1 := fun o => frozen_later hb (World.block_lt_of_cell? _ _ k1_0) (z1 o)
      replace z2 := fun o => frozen_later hb (World.block_lt_of_cell? _ _ k2_0) (z2 o)
      replace k1_0 := cell_later hb k1_0
      replace k1_1 := cell_later hb k1_1
      replace k2_0 := cell_later hb k2_0
      replace k2_1 := cell_later hb k2_1
      replace A2 := hide ((unhide A2).later hb)
      replace A3 := hide ((unhide A3).later hb)
      replace O2 := hide ((unhide O2).later hb)
      replace O3 := hide ((unhide O3).later hb)
      replace OW1 := hide ((unhide OW1).later hb)
      replace AR1 := hide ((unhide AR1).later hb)
      have OW2 := hide (ow2)
      have AR2 := hide (ar2)
      replace HB := hide (below_on (unhide HB) hb)
      clear hb
      clear ow2 ar2
      have e1 : sU true ((N.natAbs : Int) / (D.natAbs : Int)) = N / D := (unhide FL).1
      have e2 : sU false ((N.natAbs : Int) % (D.natAbs : Int)) = N % D := (unhide FL).2
      have P1 : Hid (Ow (w.heap.size + 3) w6.heap.size w6 x1 (N / D)) := hide (by
        have a0 := (unhide OW1).wide (lo' := w.heap.size + 3) (hi' := w6.heap.size) (by first | omega | (simp; done) | (simp; omega)) (by omega)
        have a1 := unhide AR1
        rw [e1] at a0 a1
        exact outN_ow a0 a1 (by rw [← e1, sU_abs (unhide N2).nonneg]; exact unhide N2))
      have P2 : Hid (Ow (w.heap.size + 3) w6.heap.size w6 x2 (N % D)) := hide (by
        have a0 := (unhide OW2).wide (lo' := w.heap.size + 3) (hi' := w6.heap.size) (by first | omega | (simp; done) | (simp; omega)) (by omega)
        have a1 := unhide AR2
        rw [e2] at a0 a1
        exact outN_ow a0 a1 (by rw [← e2, sU_abs (unhide N3).nonneg]; exact unhide N3))
      clear e1 e2 OW1 OW2 AR1 AR2
      go_wp2
      refine bodyPost_ret (v := .tuple #[.agg #[.bool x1.g, .slice x1.a x1.n x1.c], .agg #[.bool x2.g, .slice x2.a x2.n x2.c]]) (by simp [results, Try.results153, go_sem, k1_0, k1_1, k2_0, k2_1]) rfl ?_
      have bt1 := metB_but (w5 := w6) (v := x1) (G := w.heap.size + 1)
      have bt2 := metB_but (w5 := (w6.setCell ⟨w.heap.size + 1, 0, none⟩ (.bool x1.g)).setCell ⟨w.heap.size + 1, 1, none⟩ (.slice x1.a x1.n x1.c)) (v := x2) (G := w.heap.size + 1 + 1)
      exact ⟨x1, x2, rfl, bt2.below (bt1.below (unhide HB) (by omega) (unhide HB).size) (by omega) (by have := bt1.size; have := (unhide HB).size; omega), (((unhide P1).but bt1 (.inr (by omega))).but bt2 (.inr (by omega))).wide (by omega) (by have := bt1.size; have := bt2.size; omega), (((unhide P2).but bt1 (.inr (by omega))).but bt2 (.inr (by omega))).wide (by omega) (by have := bt1.size; have := bt2.size; omega)⟩
    · have FL := hide (floor_neg hD hN hr)
      have HR := hide hr
      clear hr hN
      have B0 := hide (show Below w.heap.size w (((w.alloc (.cells #[.bool true, .slice a n c, .bool b.g, .slice b.a b.n b.c] 50)).alloc (.cells #[.bool false, .slice none 0 0] 25)).alloc (.cells #[.bool false, .slice none 0 0] 25)) from ((((Below.refl _ _).alloc (by simp) _).alloc (by simp) _).alloc (by simp <;> omega) _))
      go_enter Try.func153, Try.ntmps153
      go_wp2_with fail
      refine (divI_any a b.a n b.n c b.c xs ys _ ((unhide HX).later (unhide B0)) ((unhide HY).later (unhide B0)) (unhide NX).ok (unhide NX).tr (unhide NY).ok (unhide NY).tr (by omega) (by omega) (by omega)).mono ?_
      rintro e w1 ⟨a2, n2, c2, zs, a3, n3, c3, rs, rfl, hb, ho2, ha2, hn2, ho3, ha3, hn3, ap⟩
      have s1 : w.heap.size + 3 ≤ w1.heap.size := by have := hb.size; simp at this; omega
      rw [(unhide NX).v, (unhide NY).v] at hn2 hn3
      have N2 := hide hn2
      have N3 := hide hn3
      have ln : n2 ≤ 400000 := by rw [← ha2.len]; exact Nm.len_le (V := (N.natAbs : Int) / (D.natAbs : Int)) (by rw [Int.natAbs_of_nonneg (Int.ediv_nonneg (by omega) (by omega))]; exact hn2) ((unhide KN).le (by have h1 := Int.ediv_le_self (D.natAbs : Int) (show 0 ≤ (N.natAbs : Int) by omega); have h2 := Int.ediv_nonneg (show 0 ≤ (N.natAbs : Int) by omega) (show 0 ≤ (D.natAbs : Int) by omega); omega))
      have l3 : n3 = 0 ↔ (N.natAbs : Int) % (D.natAbs : Int) = 0 := by rw [← ha3.len, List.length_eq_zero_iff]; exact hn3.nil_iff
      have p3 : 0 < n3 := by have := unhide HR; omega
      have p3x : decide ((0 : Int) < (n3 : Int)) = true := by simp; omega
      have r3 : n3 ≤ b.n := by rw [← ha3.len]; exact hn3.le (unhide NY).ok (unhide HY).len (by rw [(unhide NY).v]; exact Int.le_of_lt (Int.emod_lt_of_pos _ (by omega)))
      clear l3
      have k0_0 : w1.cell? ⟨w.heap.size, 0, none⟩ = some (.bool true) := cell_later hb (by simp [go_sem])
      have k0_3 : w1.cell? ⟨w.heap.size, 3, none⟩ = some (.slice b.a b.n b.c) := cell_later hb (by simp [go_sem])
      have k1_0 : w1.cell? ⟨w.heap.size + 1, 0, none⟩ = some (.bool false) := cell_later hb (by simp [go_sem])
      have k1_1 : w1.cell? ⟨w.heap.size + 1, 1, none⟩ = some (.slice none 0 0) := cell_later hb (by simp [go_sem])
      have k2_0 : w1.cell? ⟨w.heap.size + 1 + 1, 0, none⟩ = some (.bool false) := cell_later hb (by simp [go_sem])
      have k2_1 : w1.cell? ⟨w.heap.size + 1 + 1, 1, none⟩ = some (.slice none 0 0) := cell_later hb (by simp [go_sem])
      have z1 : ∀ o, w1.frozen? ⟨w.heap.size + 1, o, none⟩ = false := fun o => frozen_later hb (by simp) (by simp [go_sem])
      have z2 : ∀ o, w1.frozen? ⟨w.heap.size + 1 + 1, o, none⟩ = false := fun o => frozen_later hb (by simp) (by simp [go_sem])
      have A2 := hide (ha2)
      have A3 := hide (ha3)
      have O2 := hide (ho2.two)
      have O3 := hide (ho3.two)
      have HB := hide (below_on (unhide B0) hb)
      clear hb
      clear ho2 ha2 hn2 ho3 ha3 hn3 ap
      have k0_0u : (w1.alloc (.cells #[.int .i64 1] 3)).cell? ⟨w.heap.size, 0, none⟩ = some (.bool true) := (ca_other k0_0)
      have k0_3u : (w1.alloc (.cells #[.int .i64 1] 3)).cell? ⟨w.heap.size, 3, none⟩ = some (.slice b.a b.n b.c) := (ca_other k0_3)
      have k1_0u : (w1.alloc (.cells #[.int .i64 1] 3)).cell? ⟨w.heap.size + 1, 0, none⟩ = some (.bool false) := (ca_other k1_0)
      have k1_1u : (w1.alloc (.cells #[.int .i64 1] 3)).cell? ⟨w.heap.size + 1, 1, none⟩ = some (.slice none 0 0) := (ca_other k1_1)
      have k2_0u : (w1.alloc (.cells #[.int .i64 1] 3)).cell? ⟨w.heap.size + 1 + 1, 0, none⟩ = some (.bool false) := (ca_other k2_0)
      have k2_1u : (w1.alloc (.cells #[.int .i64 1] 3)).cell? ⟨w.heap.size + 1 + 1, 1, none⟩ = some (.slice none 0 0) := (ca_other k2_1)
      go_wp2_with fail
      refine (addI_any a2 _ n2 1 c2 1 zs [1] _ ((unhide A2).later ((Below.refl _ _).alloc (by simp) _)) (one_arg w1 1).1 (unhide N2).ok nm_one.ok (by omega) (by omega)).mono ?_
      rintro e w2 ⟨a4, n4, c4, ws, rfl, hb, ho4, ha4, hn4⟩
      clear k0_0u k0_3u k1_0u k1_1u k2_0u k2_1u
      rw [(unhide N2).v, nm_one.v] at hn4
      have N4 := hide hn4
      have s2 : w1.heap.size + 1 ≤ w2.heap.size := by have := hb.size; simp at this; omega
      have hbx := ba (hb)
      replace z1 := fun o => frozen_later hbx (World.block_lt_of_cell? _ _ k1_0) (z1 o)
      replace z2 := fun o => frozen_later hbx (World.block_lt_of_cell? _ _ k2_0) (z2 o)
      replace k0_0 := cell_later hbx k0_0
      replace k0_3 := cell_later hbx k0_3
      replace k1_0 := cell_later hbx k1_0
      replace k1_1 := cell_later hbx k1_1
      replace k2_0 := cell_later hbx k2_0
      replace k2_1 := cell_later hbx k2_1
      replace A2 := hide ((unhide A2).later hbx)
      replace A3 := hide ((unhide A3).later hbx)
      replace O2 := hide ((unhide O2).later hbx)
      replace O3 := hide ((unhide O3).later hbx)
      have A4 := hide (ha4)
      have O4 := hide (ho4.two)
      replace HB := hide (below_on (unhide HB) hbx)
      clear hbx hb
      clear ho4 ha4 hn4
      go_wp2_with fail
      refine (subI_any b.a a3 b.n n3 b.c c3 ys rs _ ((unhide HY).later (unhide HB)) (unhide A3) (unhide NY).ok (unhide N3).ok (by omega) r3 (by rw [(unhide N3).v, (unhide NY).v]; exact Int.le_of_lt (Int.emod_lt_of_pos _ (by omega)))).mono ?_
      rintro e w3 ⟨a5, n5, c5, ts, rfl, hb, ho5, ha5, hn5⟩
      rw [(unhide N3).v, (unhide NY).v] at hn5
      have N5 := hide hn5
      have s3 := hb.size
      replace z1 := fun o => frozen_later hb (World.block_lt_of_cell? _ _ k1_0) (z1 o)
      replace z2 := fun o => frozen_later hb (World.block_lt_of_cell? _ _ k2_0) (z2 o)
      replace k0_0 := cell_later hb k0_0
      replace k1_0 := cell_later hb k1_0
      replace k1_1 := cell_later hb k1_1
      replace k2_0 := cell_later hb k2_0
      replace k2_1 := cell_later hb k2_1
      clear k0_3
      replace A2 := hide ((unhide A2).later hb)
      replace A3 := hide ((unhide A3).later hb)
      replace O2 := hide ((unhide O2).later hb)
      replace O3 := hide ((unhide O3).later hb)
      replace A4 := hide ((unhide A4).later hb)
      replace O4 := hide ((unhide O4).later hb)
      have A5 := hide (ha5)
      have O5 := hide (ho5.two)
      replace HB := hide (below_on (unhide HB) hb)
      clear hb
      clear ho5 ha5 hn5
      clear A2 A3 O2 O3
      go_wp2_with fail
      refine (signI_v true a4 n4 c4 ws _ _ _ _ (unhide A4) (unhide O4) (unhide N4)).mono ?_
      rintro e w5 ⟨x1, rfl, hb, ow1, ar1⟩
      have s5 := hb.size
      replace z1 := fun o => frozen_later hb (World.block_lt_of_cell? _ _ k1_0) (z1 o)
      replace z2 := fun o => frozen_later hb (World.block_lt_of_cell? _ _ k2_0) (z2 o)
      replace k1_0 := cell_later hb k1_0
      replace k1_1 := cell_later hb k1_1
      replace k2_0 := cell_later hb k2_0
      replace k2_1 := cell_later hb k2_1
      clear k0_0
      replace A4 := hide ((unhide A4).later hb)
      replace O4 := hide ((unhide O4).later hb)
      replace A5 := hide ((unhide A5).later hb)
      replace O5 := hide ((unhide O5).later hb)
      have OW1 := hide (ow1)
      have AR1 := hide (ar1)
      replace HB := hide (below_on (unhide HB) hb)
      clear hb
      clear ow1 ar1
      go_wp2_with fail
      refine (signI_v false a5 n5 c5 ts _ _ _ _ (unhide A5) (unhide O5) (unhide N5)).mono ?_
      rintro e w6 ⟨x2, rfl, hb, ow2, ar2⟩
      have s6 := hb.size
      replace z1 := fun o => frozen_later hb (World.block_lt_of_cell? _ _ k1_0) (z1 o)
      replace z2 := fun o => frozen_later hb (World.block_lt_of_cell? _ _ k2_0) (z2 o)
      replace k1_0 := cell_later hb k1_0
      replace k1_1 := cell_later hb k1_1
      replace k2_0 := cell_later hb k2_0
      replace k2_1 := cell_later hb k2_1
      replace A4 := hide ((unhide A4).later hb)
      replace O4 := hide ((unhide O4).later hb)
      replace A5 := hide ((unhide A5).later hb)
      replace O5 := hide ((unhide O5).later hb)
      replace OW1 := hide ((unhide OW1).later hb)
      replace AR1 := hide ((unhide AR1).later hb)
      have OW2 := hide (ow2)
      have AR2 := hide (ar2)
      replace HB := hide (below_on (unhide HB) hb)
      clear hb
      clear ow2 ar2
      have e1 : sU true ((N.natAbs : Int) / (D.natAbs : Int) + 1) = N / D := (unhide FL).1
      have e2 : sU false ((D.natAbs : Int) - (N.natAbs : Int) % (D.natAbs : Int)) = N % D := (unhide FL).2
      have P1 : Hid (Ow (w.heap.size + 3) w6.heap.size w6 x1 (N / D)) := hide (by
        have a0 := (unhide OW1).wide (lo' := w.heap.size + 3) (hi' := w6.heap.size) (by first | omega | (simp; done) | (simp; omega)) (by omega)
        have a1 := unhide AR1
        rw [e1] at a0 a1
        exact outN_ow a0 a1 (by rw [← e1, sU_abs (unhide N4).nonneg]; exact unhide N4))
      have P2 : Hid (Ow (w.heap.size + 3) w6.heap.size w6 x2 (N % D)) := hide (by
        have a0 := (unhide OW2).wide (lo' := w.heap.size + 3) (hi' := w6.heap.size) (by first | omega | (simp; done) | (simp; omega)) (by omega)
        have a1 := unhide AR2
        rw [e2] at a0 a1
        exact outN_ow a0 a1 (by rw [← e2, sU_abs (unhide N5).nonneg]; exact unhide N5))
      clear e1 e2 OW1 OW2 AR1 AR2
      go_wp2
      refine bodyPost_ret (v := .tuple #[.agg #[.bool x1.g, .slice x1.a x1.n x1.c], .agg #[.bool x2.g, .slice x2.a x2.n x2.c]]) (by simp [results, Try.results153, go_sem, k1_0, k1_1, k2_0, k2_1]) rfl ?_
      have bt1 := metB_but (w5 := w6) (v := x1) (G := w.heap.size + 1)
      have bt2 := metB_but (w5 := (w6.setCell ⟨w.heap.size + 1, 0, none⟩ (.bool x1.g)).setCell ⟨w.heap.size + 1, 1, none⟩ (.slice x1.a x1.n x1.c)) (v := x2) (G := w.heap.size + 1 + 1)
      exact ⟨x1, x2, rfl, bt2.below (bt1.below (unhide HB) (by omega) (unhide HB).size) (by omega) (by have := bt1.size; have := (unhide HB).size; omega), (((unhide P1).but bt1 (.inr (by omega))).but bt2 (.inr (by omega))).wide (by omega) (by have := bt1.size; have := bt2.size; omega), (((unhide P2).but bt1 (.inr (by omega))).but bt2 (.inr (by omega))).wide (by omega) (by have := bt1.size; have := bt2.size; omega)⟩
  · obtain rfl : g = false := by rw [sx]; exact decide_eq_false hN
    clear sx
    have hr := True.intro
    have FL := hide (floor_pos hD hN)
    have HR := hide hr
    clear hr hN
    have B0 := hide (show Below w.heap.size w (((w.alloc (.cells #[.bool false, .slice a n c, .bool b.g, .slice b.a b.n b.c] 50)).alloc (.cells #[.bool false, .slice none 0 0] 25)).alloc (.cells #[.bool false, .slice none 0 0] 25)) from ((((Below.refl _ _).alloc (by simp) _).alloc (by simp) _).alloc (by simp <;> omega) _))
    go_enter Try.func153, Try.ntmps153
    go_wp2_with fail
    refine (divI_any a b.a n b.n c b.c xs ys _ ((unhide HX).later (unhide B0)) ((unhide HY).later (unhide B0)) (unhide NX).ok (unhide NX).tr (unhide NY).ok (unhide NY).tr (by omega) (by omega) (by omega)).mono ?_
    rintro e w1 ⟨a2, n2, c2, zs, a3, n3, c3, rs, rfl, hb, ho2, ha2, hn2, ho3, ha3, hn3, ap⟩
    have s1 : w.heap.size + 3 ≤ w1.heap.size := by have := hb.size; simp at this; omega
    rw [(unhide NX).v, (unhide NY).v] at hn2 hn3
    have N2 := hide hn2
    have N3 := hide hn3
    have ln : n2 ≤ 400000 := by rw [← ha2.len]; exact Nm.len_le (V := (N.natAbs : Int) / (D.natAbs : Int)) (by rw [Int.natAbs_of_nonneg (Int.ediv_nonneg (by omega) (by omega))]; exact hn2) ((unhide KN).le (by have h1 := Int.ediv_le_self (D.natAbs : Int) (show 0 ≤ (N.natAbs : Int) by omega); have h2 := Int.ediv_nonneg (show 0 ≤ (N.natAbs : Int) by omega) (show 0 ≤ (D.natAbs : Int) by omega); omega))
    have l3 : n3 = 0 ↔ (N.natAbs : Int) % (D.natAbs : Int) = 0 := by rw [← ha3.len, List.length_eq_zero_iff]; exact hn3.nil_iff

    clear l3
    have k0_0 : w1.cell? ⟨w.heap.size, 0, none⟩ = some (.bool false) := cell_later hb (by simp [go_sem])
    have k1_0 : w1.cell? ⟨w.heap.size + 1, 0, none⟩ = some (.bool false) := cell_later hb (by simp [go_sem])
    have k1_1 : w1.cell? ⟨w.heap.size + 1, 1, none⟩ = some (.slice none 0 0) := cell_later hb (by simp [go_sem])
    have k2_0 : w1.cell? ⟨w.heap.size + 1 + 1, 0, none⟩ = some (.bool false) := cell_later hb (by simp [go_sem])
    have k2_1 : w1.cell? ⟨w.heap.size + 1 + 1, 1, none⟩ = some (.slice none 0 0) := cell_later hb (by simp [go_sem])
    have z1 : ∀ o, w1.frozen? ⟨w.heap.size + 1, o, none⟩ = false := fun o => frozen_later hb (by simp) (by simp [go_sem])
    have z2 : ∀ o, w1.frozen? ⟨w.heap.size + 1 + 1, o, none⟩ = false := fun o => frozen_later hb (by simp) (by simp [go_sem])
    have A2 := hide (ha2)
    have A3 := hide (ha3)
    have O2 := hide (ho2.two)
    have O3 := hide (ho3.two)
    have HB := hide (below_on (unhide B0) hb)
    clear hb
    clear ho2 ha2 hn2 ho3 ha3 hn3 ap
    go_wp2_with fail
    refine (signI_v false a2 n2 c2 zs _ _ _ _ (unhide A2) (unhide O2) (unhide N2)).mono ?_
    rintro e w5 ⟨x1, rfl, hb, ow1, ar1⟩
    have s5 := hb.size
    replace z1 := fun o => frozen_later hb (World.block_lt_of_cell? _ _ k1_0) (z1 o)
    replace z2 := fun o => frozen_later hb (World.block_lt_of_cell? _ _ k2_0) (z2 o)
    replace k1_0 := cell_later hb k1_0
    replace k1_1 := cell_later hb k1_1
    replace k2_0 := cell_later hb k2_0
    replace k2_1 := cell_later hb k2_1
    clear k0_0
    replace A2 := hide ((unhide A2).later hb)
    replace A3 := hide ((unhide A3).later hb)
    replace O2 := hide ((unhide O2).later hb)
    replace O3 := hide ((unhide O3).later hb)
    have OW1 := hide (ow1)
    have AR1 := hide (ar1)
    replace HB := hide (below_on (unhide HB) hb)
    clear hb
    clear ow1 ar1
    go_wp2_with fail
    refine (signI_v false a3 n3 c3 rs _ _ _ _ (unhide A3) (unhide O3) (unhide N3)).mono ?_
    rintro e w6 ⟨x2, rfl, hb, ow2, ar2⟩
    have s6 := hb.size
    replace z1 := fun o => frozen_later hb (World.block_lt_of_cell? _ _ k1_0) (z1 o)
    replace z2 := fun o => frozen_later hb (World.block_lt_of_cell? _ _ k2_0) (z2 o)
    replace k1_0 := cell_later hb k1_0
    replace k1_1 := cell_later hb k1_1
    replace k2_0 := cell_later hb k2_0
    replace k2_1 := cell_later hb k2_1
    replace A2 := hide ((unhide A2).later hb)
    replace A3 := hide ((unhide A3).later hb)
    replace O2 := hide ((unhide O2).later hb)
    replace O3 := hide ((unhide O3).later hb)
    replace OW1 := hide ((unhide OW1).later hb)
    replace AR1 := hide ((unhide AR1).later hb)
    have OW2 := hide (ow2)
    have AR2 := hide (ar2)
    replace HB := hide (below_on (unhide HB) hb)
    clear hb
    clear ow2 ar2
    have e1 : sU false ((N.natAbs : Int) / (D.natAbs : Int)) = N / D := (unhide FL).1
    have e2 : sU false ((N.natAbs : Int) % (D.natAbs : Int)) = N % D := (unhide FL).2
    have P1 : Hid (Ow (w.heap.size + 3) w6.heap.size w6 x1 (N / D)) := hide (by
      have a0 := (unhide OW1).wide (lo' := w.heap.size + 3) (hi' := w6.heap.size) (by first | omega | (simp; done) | (simp; omega)) (by omega)
      have a1 := unhide AR1
      rw [e1] at a0 a1
      exact outN_ow a0 a1 (by rw [← e1, sU_abs (unhide N2).nonneg]; exact unhide N2))
    have P2 : Hid (Ow (w.heap.size + 3) w6.heap.size w6 x2 (N % D)) := hide (by
      have a0 := (unhide OW2).wide (lo' := w.heap.size + 3) (hi' := w6.heap.size) (by first | omega | (simp; done) | (simp; omega)) (by omega)
      have a1 := unhide AR2
      rw [e2] at a0 a1
      exact outN_ow a0 a1 (by rw [← e2, sU_abs (unhide N3).nonneg]; exact unhide N3))
    clear e1 e2 OW1 OW2 AR1 AR2
    go_wp2
    refine bodyPost_ret (v := .tuple #[.agg #[.bool x1.g, .slice x1.a x1.n x1.c], .agg #[.bool x2.g, .slice x2.a x2.n x2.c]]) (by simp [results, Try.results153, go_sem, k1_0, k1_1, k2_0, k2_1]) rfl ?_
    have bt1 := metB_but (w5 := w6) (v := x1) (G := w.heap.size + 1)
    have bt2 := metB_but (w5 := (w6.setCell ⟨w.heap.size + 1, 0, none⟩ (.bool x1.g)).setCell ⟨w.heap.size + 1, 1, none⟩ (.slice x1.a x1.n x1.c)) (v := x2) (G := w.heap.size + 1 + 1)
    exact ⟨x1, x2, rfl, bt2.below (bt1.below (unhide HB) (by omega) (unhide HB).size) (by omega) (by have := bt1.size; have := (unhide HB).size; omega), (((unhide P1).but bt1 (.inr (by omega))).but bt2 (.inr (by omega))).wide (by omega) (by have := bt1.size; have := bt2.size; omega), (((unhide P2).but bt1 (.inr (by omega))).but bt2 (.inr (by omega))).wide (by omega) (by have := bt1.size; have := bt2.size; omega)⟩
end Go.Proofs.Ytagnhgefdcckoaa
namespace Go.Proofs.Ytagnhgefdcckoaa
open Go.RowKit
set_option linter.unusedVariables false
set_option maxRecDepth 100000
set_option linter.unusedSimpArgs false

/-- Two numbers and a bool are answered, in memory of the call's own, apart. -/
def RetD (w : World) (U : QD → Bool → Prop) (e : Ending) (w' : World) : Prop := ∃ (v : QV) (d : QD) (ok : Bool), e = .returned (.tuple #[.agg #[.bool v.num.g, .slice v.num.a v.num.n v.num.c], .agg #[.bool v.den.g, .slice v.den.a v.den.n v.den.c], .bool ok]) ∧ Below w.heap.size w w' ∧ AllOwn w.heap.size w'.heap.size w' [(v.num, d.num), (v.den, d.den)] ∧ U d ok
theorem RetD.drew {w W : World} {U : QD → Bool → Prop} {e : Ending} (h : RetD w U e W) : RetD w U e W.drew := by
  obtain ⟨v, d, ok, rfl, hb, ho, hu⟩ := h
  exact ⟨v, d, ok, rfl, hb.drew, ho.later (Below.refl _ _).drew, hu⟩
def AnsD (P : Bool) (A B : Int) (d : QD) (ok : Bool) : Prop := AnsB P A d.num ok ∧ AnsB P B d.den ok
theorem AnsD.same {P : Bool} {A B : Int} {d d' : QD} {ok ok' : Bool} (h : AnsD P A B d ok) (k : AnsD P A B d' ok') : d = d' ∧ ok = ok' := by
  obtain ⟨e1, e2⟩ := h.1.same k.1
  obtain ⟨e3, _⟩ := h.2.same k.2
  obtain ⟨d1, d2⟩ := d
  obtain ⟨d3, d4⟩ := d'
  simp only at e1 e3
  exact ⟨by rw [e1, e3], e2⟩
theorem AnsD.lens {P : Bool} {A B : Int} {d : QD} {ok : Bool} (h : AnsD P A B d ok) : d.num.xs.length ≤ 40 ∧ d.den.xs.length ≤ 40 := ⟨h.1.lens, h.2.lens⟩
/-- The quotient and the rest of two numbers as they are read. -/
def qD (d d' : BD) : Int := sU (!(d.g == d'.g)) (val d.xs / val d'.xs)
def rD (d d' : BD) : Int := sU d.g (val d.xs % val d'.xs)
def pD (d d' : BD) : Bool := (goodB d.g d.xs && goodB d'.g d'.xs) && decide (d'.xs.length ≠ 0)
theorem dOwn_zero (lo hi : Nat) (w : World) : AllOwn lo hi w [((⟨⟨false, none, 0, 0⟩, ⟨false, none, 0, 0⟩⟩ : QV).num, (⟨⟨false, []⟩, ⟨false, []⟩⟩ : QD).num), ((⟨⟨false, none, 0, 0⟩, ⟨false, none, 0, 0⟩⟩ : QV).den, (⟨⟨false, []⟩, ⟨false, []⟩⟩ : QD).den)] := zeroQ lo hi w
theorem AnsD.no {A B : Int} : AnsD false A B ⟨⟨false, []⟩, ⟨false, []⟩⟩ false := ⟨.inr ⟨rfl, rfl, rfl⟩, .inr ⟨rfl, rfl, rfl⟩⟩
theorem retD_fin {w wN : World} {R : Nat} {v : QV} {d : QD} {ok : Bool} {U : QD → Bool → Prop} (hR : w.heap.size ≤ R) (hb : Below w.heap.size w wN) (ho : AllOwn (R + 1 + 1) wN.heap.size wN [(v.num, d.num), (v.den, d.den)]) (hu : U d ok) :
    RetD w U (.returned (.tuple #[.agg #[.bool v.num.g, .slice v.num.a v.num.n v.num.c], .agg #[.bool v.den.g, .slice v.den.a v.den.n v.den.c], .bool ok])) ((((wN.setCell ⟨R, 0, none⟩ (.bool v.num.g)).setCell ⟨R, 1, none⟩ (.slice v.num.a v.num.n v.num.c)).setCell ⟨R + 1, 0, none⟩ (.bool v.den.g)).setCell ⟨R + 1, 1, none⟩ (.slice v.den.a v.den.n v.den.c)) := by
  have bt1 := metB_but (w5 := wN) (v := v.num) (G := R)
  have bt2 := metB_but (w5 := (wN.setCell ⟨R, 0, none⟩ (.bool v.num.g)).setCell ⟨R, 1, none⟩ (.slice v.num.a v.num.n v.num.c)) (v := v.den) (G := R + 1)
  have h1 := bt1.below hb hR hb.size
  exact ⟨v, d, ok, rfl, bt2.below h1 (by omega) h1.size, ((ho.but bt1 (.inr (by omega))).but bt2 (.inr (by omega))).wide (by omega) (Nat.le_trans bt1.size bt2.size), hu⟩
/-- What a quotient and a rest lie in can be cut in two. -/
theorem mid_of {lo : Nat} {w : World} {a a' : Option Addr} {zs rs : List Int} (h : Own lo w a zs) (h' : Own lo w a' rs) (k : Apart a zs a' rs) (hl : lo ≤ w.heap.size) : ∃ mid, lo ≤ mid ∧ mid ≤ w.heap.size ∧ Own2 lo mid w a zs ∧ Own2 mid w.heap.size w a' rs := by
  rcases k with k | k | ⟨b, o, b', o', ea, ea', hlt⟩
  · exact ⟨lo, Nat.le_refl _, hl, .inl k, h'.two⟩
  · exact ⟨w.heap.size, hl, Nat.le_refl _, h.two, .inl k⟩
  · rcases h.two with e | ⟨c, cur, e, h1, h2, hg, hc⟩
    · exact ⟨lo, Nat.le_refl _, hl, .inl e, h'.two⟩
    · rcases h'.two with e' | ⟨c', cur', e', h1', h2', hg', hc'⟩
      · exact ⟨w.heap.size, hl, Nat.le_refl _, h.two, .inl e'⟩
      · have f1 : c = b := by rw [ea] at e; injection e with e; injection e with e _ _; exact e.symm
        have f2 : c' = b' := by rw [ea'] at e'; injection e' with e'; injection e' with e' _ _; exact e'.symm
        exact ⟨c', by omega, by omega, .inr ⟨c, cur, e, h1, by omega, hg, hc⟩, .inr ⟨c', cur', e', Nat.le_refl _, h2', hg', hc'⟩⟩
theorem div_short {xs ys zs rs : List Int} (ox : okL xs) (hy : 0 < val ys) (h : Nm zs (val xs / val ys)) (k : Nm rs (val xs % val ys)) : zs.length ≤ xs.length ∧ rs.length ≤ xs.length := by
  have x0 := val_nonneg ox
  have h1 : val xs / val ys ≤ val xs := Int.ediv_le_self _ x0
  have h2 : 0 ≤ val xs / val ys := Int.ediv_nonneg x0 (by omega)
  have h3 : val xs % val ys ≤ val xs := by have e1 := Int.emod_add_mul_ediv (val xs) (val ys); have e2 := Int.mul_nonneg (show 0 ≤ val ys by omega) h2; omega
  exact ⟨len_of_val ox h.ok h.tr (by rw [h.v]; exact h1), len_of_val ox k.ok k.tr (by rw [k.v]; exact h3)⟩
theorem val_pos_of {ys : List Int} (oy : okL ys) (ty : trim ys = ys) (h : ys.length ≠ 0) : 0 < val ys := by
  have h1 := val_nonneg oy
  have h2 := (val_zero_iff oy ty)
  by_cases e : val ys = 0
  · exact absurd (by rw [h2.1 e]; rfl) h
  · omega
theorem ansD_yes {d d' : BD} {zs rs : List Int} (hg1 : goodB d.g d.xs = true) (hg2 : goodB d'.g d'.xs = true) (h0 : d'.xs.length ≠ 0) (h : Nm zs (val d.xs / val d'.xs)) (k : Nm rs (val d.xs % val d'.xs)) :
    AnsD (pD d d') (qD d d') (rD d d') ⟨⟨decide (qD d d' < 0), zs⟩, ⟨decide (rD d d' < 0), rs⟩⟩ true := by
  obtain ⟨ox, tx, lx, _⟩ := good_parts hg1
  obtain ⟨oy, ty, ly, _⟩ := good_parts hg2
  have hp : pD d d' = true := by unfold pD; rw [hg1, hg2]; simp only [Bool.and_self, Bool.true_and]; exact decide_eq_true h0
  have y0 := val_pos_of oy ty h0
  obtain ⟨l1, l2⟩ := div_short ox y0 h k
  refine ⟨.inl ⟨hp, rfl, rfl, ?_, ?_⟩, .inl ⟨hp, rfl, rfl, ?_, ?_⟩⟩
  · show Nm zs ((qD d d').natAbs : Int)
    unfold qD; rw [sU_abs (Int.ediv_nonneg (val_nonneg ox) (by omega))]; exact h
  · exact Nat.le_trans l1 lx
  · show Nm rs ((rD d d').natAbs : Int)
    unfold rD; rw [sU_abs (Int.emod_nonneg _ (by omega))]; exact k
  · exact Nat.le_trans l2 lx

/-- The specification's l1Div at good numbers. -/
def OutD (w : World) (d d' : BD) (e : Ending) (w' : World) : Prop := ∃ (x y : BV) (zs rs : List Int), e = .returned (.tuple #[.agg #[.bool x.g, .slice x.a x.n x.c], .agg #[.bool y.g, .slice y.a y.n y.c]]) ∧ Below w.heap.size w w' ∧ AllOwn w.heap.size w'.heap.size w' [(x, ⟨decide (qD d d' < 0), zs⟩), (y, ⟨decide (rD d d' < 0), rs⟩)] ∧ Nm zs (val d.xs / val d'.xs) ∧ Nm rs (val d.xs % val d'.xs)
set_option maxHeartbeats 4000000 in
theorem l1DivD (b b' : BV) (d d' : BD) (w : World) (h : AllAr w [(b, d)]) (h' : AllAr w [(b', d')]) (hg1 : goodB d.g d.xs = true) (hg2 : goodB d'.g d'.xs = true) (h0 : d'.xs.length ≠ 0) :
    Calls Try.prog 56 #[.agg #[.bool b.g, .slice b.a b.n b.c], .agg #[.bool b'.g, .slice b'.a b'.n b'.c]] w (OutD w d d') := by
  have HX := hide h.head
  have HY := hide h'.head
  clear h h'
  have NX := hide (good_parts hg1)
  have NY := hide (good_parts hg2)
  have GG := hide (And.intro hg1 hg2)
  have LX : Hid (b.n ≤ 40 ∧ b'.n ≤ 40 ∧ 1 ≤ b'.n) := hide (by have := (good_parts hg1).2.2.1; have := (good_parts hg2).2.2.1; have := (unhide HX).ar.len; have := (unhide HY).ar.len; omega)
  have SX := hide (And.intro (unhide HX).sg (unhide HY).sg)
  have YP := hide (val_pos_of (unhide NY).1 (unhide NY).2.1 h0)
  have B0 := hide (show Below w.heap.size w ((((w.alloc (.cells #[.bool b.g, .slice b.a b.n b.c] 25)).alloc (.cells #[.bool b'.g, .slice b'.a b'.n b'.c] 25)).alloc (.cells #[.bool false, .slice none 0 0] 25)).alloc (.cells #[.bool false, .slice none 0 0] 25)) from (((((Below.refl _ _).alloc (by simp) _).alloc (by simp) _).alloc (by simp <;> omega) _).alloc (by simp <;> omega) _))
  clear hg1 hg2 h0
  go_enter Try.func56, Try.ntmps56
  go_wp2_with fail
  refine (divS_any b.a b'.a b.n b'.n b.c b'.c d.xs d'.xs _ ((unhide HX).ar.later (unhide B0)) ((unhide HY).ar.later (unhide B0)) (unhide NX).1 (unhide NX).2.1 (unhide NY).1 (unhide NY).2.1 (unhide LX).2.2 (by have := unhide LX; omega) (by have := unhide LX; omega)).mono ?_
  rintro e w2 ⟨a2, n2, c2, zs, a3, n3, c3, rs, rfl, hb, ho2, ha2, hn2, ho3, ha3, hn3, _⟩
  have s2 : w.heap.size + 1 + 1 + 1 + 1 ≤ w2.heap.size := by have := hb.size; simp at this; omega
  have hq := div_short (unhide NX).1 (unhide YP) hn2 hn3
  have q2 : n2 ≤ 400000 := by have := unhide LX; have := (unhide HX).ar.len; have := ha2.len; omega
  have q3 : n3 ≤ 400000 := by have := unhide LX; have := (unhide HX).ar.len; have := ha3.len; omega
  have N2 := hide hn2
  have N3 := hide hn3
  have k0_0 : w2.cell? ⟨w.heap.size, 0, none⟩ = some (.bool b.g) := cell_later hb (by simp [go_sem])
  have k1_0 : w2.cell? ⟨w.heap.size + 1, 0, none⟩ = some (.bool b'.g) := cell_later hb (by simp [go_sem])
  have k2_0 : w2.cell? ⟨w.heap.size + 1 + 1, 0, none⟩ = some (.bool false) := cell_later hb (by simp [go_sem])
  have k2_1 : w2.cell? ⟨w.heap.size + 1 + 1, 1, none⟩ = some (.slice none 0 0) := cell_later hb (by simp [go_sem])
  have k3_0 : w2.cell? ⟨w.heap.size + 1 + 1 + 1, 0, none⟩ = some (.bool false) := cell_later hb (by simp [go_sem])
  have k3_1 : w2.cell? ⟨w.heap.size + 1 + 1 + 1, 1, none⟩ = some (.slice none 0 0) := cell_later hb (by simp [go_sem])
  have z2 : ∀ o, w2.frozen? ⟨w.heap.size + 1 + 1, o, none⟩ = false := fun o => frozen_later hb (by simp) (by simp [go_sem])
  have z3 : ∀ o, w2.frozen? ⟨w.heap.size + 1 + 1 + 1, o, none⟩ = false := fun o => frozen_later hb (by simp) (by simp [go_sem])
  have A2 := hide (ha2)
  have A3 := hide (ha3)
  have HB := hide (below_on (unhide B0) hb)
  clear hb
  clear ho2 ha2 hn2 ho3 ha3 hn3 hq
  have ne : (w.heap.size ≠ w.heap.size + 1 + 1) ∧ (w.heap.size + 1 ≠ w.heap.size + 1 + 1) ∧ (w.heap.size ≠ w.heap.size + 1 + 1 + 1) ∧ (w.heap.size + 1 ≠ w.heap.size + 1 + 1 + 1) := by omega
  go_upto_region 2 with fail
  go_region_held3 (fun w' => w'.cell? ⟨w.heap.size, 0, none⟩ = some (.bool b.g) ∧ w'.cell? ⟨w.heap.size + 1, 0, none⟩ = some (.bool b'.g)) (with_reducible (first | exact ⟨k0_0, k1_0⟩ | exact ⟨cd_other k0_0, cd_other k1_0⟩ | exact ⟨j0, j1⟩ | exact ⟨i0, i1⟩ | exact ⟨cs_other (cs_other i0 ne.1) ne.1, cs_other (cs_other i1 ne.2.1) ne.2.1⟩ | exact ⟨cs_other (cs_other (cs_other (cs_other i0 ne.1) ne.1) ne.2.2.1) ne.2.2.1, cs_other (cs_other (cs_other (cs_other i1 ne.2.1) ne.2.1) ne.2.2.2) ne.2.2.2⟩ | fail))
    (first
    | (go_at_call_of 53 (Value.bool (!(b.g == b'.g))); refine (makeS_v _ a2 n2 c2 zs _ (val d.xs / val d'.xs) (?_) (unhide N2) (?_)).mono ?_; exact (unhide A2).drew; omega; rintro e w3 ⟨x1, rfl, hb', ow1, ar1⟩; have hb := below_of_drew hb'; have s3 := hb.size; have OW1 := hide (show AllOwn w2.heap.size w3.heap.size w3 _ from ow1); have A3b := hide ((unhide A3).later hb); have B3 := hide hb; have j0 := cell_later hb k0_0; have j1 := cell_later hb k1_0; have j2 := cell_later hb k2_0; have j3 := cell_later hb k2_1; have j4 := cell_later hb k3_0; have j5 := cell_later hb k3_1; have y2 := fun o => frozen_later hb (World.block_lt_of_cell? _ _ k2_0) (z2 o); have y3 := fun o => frozen_later hb (World.block_lt_of_cell? _ _ k3_0) (z3 o); clear ow1 ar1 hb hb')
    | (go_at_call_of 53 (Value.bool b.g); refine (makeS_v _ a3 n3 c3 rs _ (val d.xs % val d'.xs) (?_) (unhide N3) (?_)).mono ?_; exact unhide A3b; omega; rintro e w4 ⟨x2, rfl, hb, ow2, ar2⟩; have s4 := hb.size; have OW2 := hide ow2; have OW1b := hide ((unhide OW1).later hb); have B4 := hide hb; have i0 := cell_later hb j0; have i1 := cell_later hb j1; have i2 := cell_later hb j2; have i3 := cell_later hb j3; have i4 := cell_later hb j4; have i5 := cell_later hb j5; have u2 := fun o => frozen_later hb (World.block_lt_of_cell? _ _ j2) (y2 o); have u3 := fun o => frozen_later hb (World.block_lt_of_cell? _ _ j4) (y3 o); clear ow2 ar2 hb))
  all_goals
    have HB2 := hide (below_on (below_on (unhide HB) (unhide B3)) (unhide B4))
    go_wp2
    refine bodyPost_ret (v := .tuple #[.agg #[.bool x1.g, .slice x1.a x1.n x1.c], .agg #[.bool x2.g, .slice x2.a x2.n x2.c]]) (by simp [results, Try.results56, go_sem, i2, i3, i4, i5]) rfl ?_
    have bt1 := metB_but (w5 := w4) (v := x1) (G := w.heap.size + 1 + 1)
    have bt2 := metB_but (w5 := (w4.setCell ⟨w.heap.size + 1 + 1, 0, none⟩ (.bool x1.g)).setCell ⟨w.heap.size + 1 + 1, 1, none⟩ (.slice x1.a x1.n x1.c)) (v := x2) (G := w.heap.size + 1 + 1 + 1)
    have a1 := unhide OW1b
    have a2' := unhide OW2
    rw [(unhide SX).1, (unhide SX).2] at a1
    rw [(unhide SX).1] at a2'
    exact ⟨x1, x2, zs, rs, rfl, bt2.below (bt1.below (unhide HB2) (by omega) (unhide HB2).size) (by omega) (by have := bt1.size; have := (unhide HB2).size; omega), (((a1.join a2' (by omega) (by omega)).but bt1 (.inr (by omega))).but bt2 (.inr (by omega))).wide (by omega) (by have := bt1.size; have := bt2.size; omega), unhide N2, unhide N3⟩

set_option maxHeartbeats 4000000 in
theorem DivS_a (b b' : BV) (d d' : BD) (w : World) (h : AllAr w [(b, d)]) (h' : AllAr w [(b', d')]) : Calls Try.prog 13 #[.agg #[.bool b.g, .slice b.a b.n b.c], .agg #[.bool b'.g, .slice b'.a b'.n b'.c]] w (RetD w (AnsD (pD d d') (qD d d') (rD d d'))) := by
  have HX := hide h.head
  have HY := hide h'.head
  clear h h'
  cases hg1 : goodB d.g d.xs
  · have C1 := hide (fun w1 (k : Sl w1 b.a d.xs) => goodS_any b.g b.a b.n b.c d.xs w1 k (unhide HX).ar.len (Nat.le_trans (unhide HX).ar.cap (unhide HX).ar.top))
    rw [(unhide HX).sg, hg1, ← (unhide HX).sg] at C1
    have B0 := hide (show Below w.heap.size w ((((w.alloc (.cells #[.bool b.g, .slice b.a b.n b.c] 25)).alloc (.cells #[.bool b'.g, .slice b'.a b'.n b'.c] 25)).alloc (.cells #[.bool false, .slice none 0 0] 25)).alloc (.cells #[.bool false, .slice none 0 0] 25)) from (((((Below.refl _ _).alloc (by simp) _).alloc (by simp) _).alloc (by simp <;> omega) _).alloc (by simp <;> omega) _))
    have hp : pD d d' = false := by unfold pD; rw [hg1]; rfl
    rw [hp]
    go_enter Try.func13, Try.ntmps13
    go_wp2_with fail
    refine (unhide C1 _ ((unhide HX).ar.later (unhide B0)).sl).mono ?_
    rintro e w1 ⟨rfl, hb⟩
    have r0 : w1.cell? ⟨w.heap.size + 1 + 1, 0, none⟩ = some (.bool false) := cell_later hb (by simp [go_sem])
    have r1 : w1.cell? ⟨w.heap.size + 1 + 1, 1, none⟩ = some (.slice none 0 0) := cell_later hb (by simp [go_sem])
    have r2 : w1.cell? ⟨w.heap.size + 1 + 1 + 1, 0, none⟩ = some (.bool false) := cell_later hb (by simp [go_sem])
    have r3 : w1.cell? ⟨w.heap.size + 1 + 1 + 1, 1, none⟩ = some (.slice none 0 0) := cell_later hb (by simp [go_sem])
    have f0 : ∀ o, w1.frozen? ⟨w.heap.size + 1 + 1, o, none⟩ = false := fun o => frozen_later hb (by simp) (by simp [go_sem])
    have f1 : ∀ o, w1.frozen? ⟨w.heap.size + 1 + 1 + 1, o, none⟩ = false := fun o => frozen_later hb (by simp) (by simp [go_sem])
    have s1 : w.heap.size + 1 + 1 + 1 + 1 ≤ w1.heap.size := by have := hb.size; simp at this; omega
    have HB := hide (below_on (unhide B0) hb)
    clear hb
    go_wp2
    exact bodyPost_ret (v := .tuple #[.agg #[.bool false, .slice none 0 0], .agg #[.bool false, .slice none 0 0], .bool false]) (by simp [results, Try.results13, go_sem, r0, r1, r2, r3]) rfl (retD_fin (v := ⟨⟨false, none, 0, 0⟩, ⟨false, none, 0, 0⟩⟩) (d := ⟨⟨false, []⟩, ⟨false, []⟩⟩) (R := w.heap.size + 1 + 1) (by omega) (unhide HB) (zeroQ _ _ _) AnsD.no)
  · cases hg2 : goodB d'.g d'.xs
    · have C1 := hide (fun w1 (k : Sl w1 b.a d.xs) => goodS_any b.g b.a b.n b.c d.xs w1 k (unhide HX).ar.len (Nat.le_trans (unhide HX).ar.cap (unhide HX).ar.top))
      rw [(unhide HX).sg, hg1, ← (unhide HX).sg] at C1
      have C2 := hide (fun w1 (k : Sl w1 b'.a d'.xs) => goodS_any b'.g b'.a b'.n b'.c d'.xs w1 k (unhide HY).ar.len (Nat.le_trans (unhide HY).ar.cap (unhide HY).ar.top))
      rw [(unhide HY).sg, hg2, ← (unhide HY).sg] at C2
      have B0 := hide (show Below w.heap.size w ((((w.alloc (.cells #[.bool b.g, .slice b.a b.n b.c] 25)).alloc (.cells #[.bool b'.g, .slice b'.a b'.n b'.c] 25)).alloc (.cells #[.bool false, .slice none 0 0] 25)).alloc (.cells #[.bool false, .slice none 0 0] 25)) from (((((Below.refl _ _).alloc (by simp) _).alloc (by simp) _).alloc (by simp <;> omega) _).alloc (by simp <;> omega) _))
      have hp : pD d d' = false := by unfold pD; rw [hg1, hg2]; rfl
      rw [hp]
      go_enter Try.func13, Try.ntmps13
      go_wp2_with fail
      refine (unhide C1 _ ((unhide HX).ar.later (unhide B0)).sl).mono ?_
      rintro e w1 ⟨rfl, hb⟩
      have r0 : w1.cell? ⟨w.heap.size + 1 + 1, 0, none⟩ = some (.bool false) := cell_later hb (by simp [go_sem])
      have r1 : w1.cell? ⟨w.heap.size + 1 + 1, 1, none⟩ = some (.slice none 0 0) := cell_later hb (by simp [go_sem])
      have r2 : w1.cell? ⟨w.heap.size + 1 + 1 + 1, 0, none⟩ = some (.bool false) := cell_later hb (by simp [go_sem])
      have r3 : w1.cell? ⟨w.heap.size + 1 + 1 + 1, 1, none⟩ = some (.slice none 0 0) := cell_later hb (by simp [go_sem])
      have cy0 : w1.cell? ⟨w.heap.size + 1, 0, none⟩ = some (.bool b'.g) := cell_later hb (by simp [go_sem])
      have cy1 : w1.cell? ⟨w.heap.size + 1, 1, none⟩ = some (.slice b'.a b'.n b'.c) := cell_later hb (by simp [go_sem])
      have f0 : ∀ o, w1.frozen? ⟨w.heap.size + 1 + 1, o, none⟩ = false := fun o => frozen_later hb (by simp) (by simp [go_sem])
      have f1 : ∀ o, w1.frozen? ⟨w.heap.size + 1 + 1 + 1, o, none⟩ = false := fun o => frozen_later hb (by simp) (by simp [go_sem])
      have s1 : w.heap.size + 1 + 1 + 1 + 1 ≤ w1.heap.size := by have := hb.size; simp at this; omega
      have HB := hide (below_on (unhide B0) hb)
      clear hb
      go_wp2_with fail
      refine (unhide C2 _ ((unhide HY).ar.later (unhide HB)).sl).mono ?_
      rintro e w2 ⟨rfl, hb⟩
      replace r0 := cell_later hb r0
      replace r1 := cell_later hb r1
      replace r2 := cell_later hb r2
      replace r3 := cell_later hb r3
      replace f0 : ∀ o, w2.frozen? ⟨w.heap.size + 1 + 1, o, none⟩ = false := fun o => frozen_later hb (by omega) (f0 o)
      replace f1 : ∀ o, w2.frozen? ⟨w.heap.size + 1 + 1 + 1, o, none⟩ = false := fun o => frozen_later hb (by omega) (f1 o)
      replace s1 : w.heap.size + 1 + 1 + 1 + 1 ≤ w2.heap.size := Nat.le_trans s1 hb.size
      replace HB := hide (below_on (unhide HB) hb)
      clear hb
      clear cy0 cy1
      go_wp2
      exact bodyPost_ret (v := .tuple #[.agg #[.bool false, .slice none 0 0], .agg #[.bool false, .slice none 0 0], .bool false]) (by simp [results, Try.results13, go_sem, r0, r1, r2, r3]) rfl (retD_fin (v := ⟨⟨false, none, 0, 0⟩, ⟨false, none, 0, 0⟩⟩) (d := ⟨⟨false, []⟩, ⟨false, []⟩⟩) (R := w.heap.size + 1 + 1) (by omega) (unhide HB) (zeroQ _ _ _) AnsD.no)
    · by_cases h0 : d'.xs.length = 0
      · have C1 := hide (fun w1 (k : Sl w1 b.a d.xs) => goodS_any b.g b.a b.n b.c d.xs w1 k (unhide HX).ar.len (Nat.le_trans (unhide HX).ar.cap (unhide HX).ar.top))
        rw [(unhide HX).sg, hg1, ← (unhide HX).sg] at C1
        have C2 := hide (fun w1 (k : Sl w1 b'.a d'.xs) => goodS_any b'.g b'.a b'.n b'.c d'.xs w1 k (unhide HY).ar.len (Nat.le_trans (unhide HY).ar.cap (unhide HY).ar.top))
        rw [(unhide HY).sg, hg2, ← (unhide HY).sg] at C2
        have B0 := hide (show Below w.heap.size w ((((w.alloc (.cells #[.bool b.g, .slice b.a b.n b.c] 25)).alloc (.cells #[.bool b'.g, .slice b'.a b'.n b'.c] 25)).alloc (.cells #[.bool false, .slice none 0 0] 25)).alloc (.cells #[.bool false, .slice none 0 0] 25)) from (((((Below.refl _ _).alloc (by simp) _).alloc (by simp) _).alloc (by simp <;> omega) _).alloc (by simp <;> omega) _))
        have hp : pD d d' = false := by unfold pD; rw [hg1, hg2, h0]; rfl
        rw [hp]
        have HN : Hid (b'.n = 0) := hide (by have := (unhide HY).ar.len; omega)
        clear h0
        go_enter Try.func13, Try.ntmps13
        go_wp2_with fail
        refine (unhide C1 _ ((unhide HX).ar.later (unhide B0)).sl).mono ?_
        rintro e w1 ⟨rfl, hb⟩
        have r0 : w1.cell? ⟨w.heap.size + 1 + 1, 0, none⟩ = some (.bool false) := cell_later hb (by simp [go_sem])
        have r1 : w1.cell? ⟨w.heap.size + 1 + 1, 1, none⟩ = some (.slice none 0 0) := cell_later hb (by simp [go_sem])
        have r2 : w1.cell? ⟨w.heap.size + 1 + 1 + 1, 0, none⟩ = some (.bool false) := cell_later hb (by simp [go_sem])
        have r3 : w1.cell? ⟨w.heap.size + 1 + 1 + 1, 1, none⟩ = some (.slice none 0 0) := cell_later hb (by simp [go_sem])
        have cy0 : w1.cell? ⟨w.heap.size + 1, 0, none⟩ = some (.bool b'.g) := cell_later hb (by simp [go_sem])
        have cy1 : w1.cell? ⟨w.heap.size + 1, 1, none⟩ = some (.slice b'.a b'.n b'.c) := cell_later hb (by simp [go_sem])
        have f0 : ∀ o, w1.frozen? ⟨w.heap.size + 1 + 1, o, none⟩ = false := fun o => frozen_later hb (by simp) (by simp [go_sem])
        have f1 : ∀ o, w1.frozen? ⟨w.heap.size + 1 + 1 + 1, o, none⟩ = false := fun o => frozen_later hb (by simp) (by simp [go_sem])
        have s1 : w.heap.size + 1 + 1 + 1 + 1 ≤ w1.heap.size := by have := hb.size; simp at this; omega
        have HB := hide (below_on (unhide B0) hb)
        clear hb
        go_wp2_with fail
        refine (unhide C2 _ ((unhide HY).ar.later (unhide HB)).sl).mono ?_
        rintro e w2 ⟨rfl, hb⟩
        replace r0 := cell_later hb r0
        replace r1 := cell_later hb r1
        replace r2 := cell_later hb r2
        replace r3 := cell_later hb r3
        replace cy0 := cell_later hb cy0
        replace cy1 := cell_later hb cy1
        replace f0 : ∀ o, w2.frozen? ⟨w.heap.size + 1 + 1, o, none⟩ = false := fun o => frozen_later hb (by omega) (f0 o)
        replace f1 : ∀ o, w2.frozen? ⟨w.heap.size + 1 + 1 + 1, o, none⟩ = false := fun o => frozen_later hb (by omega) (f1 o)
        replace s1 : w.heap.size + 1 + 1 + 1 + 1 ≤ w2.heap.size := Nat.le_trans s1 hb.size
        replace HB := hide (below_on (unhide HB) hb)
        clear hb
        have hn0 : ((b'.n : Nat) : Int) = 0 := by have := unhide HN; omega
        go_wp2
        exact bodyPost_ret (v := .tuple #[.agg #[.bool false, .slice none 0 0], .agg #[.bool false, .slice none 0 0], .bool false]) (by simp [results, Try.results13, go_sem, r0, r1, r2, r3]) rfl (retD_fin (v := ⟨⟨false, none, 0, 0⟩, ⟨false, none, 0, 0⟩⟩) (d := ⟨⟨false, []⟩, ⟨false, []⟩⟩) (R := w.heap.size + 1 + 1) (by omega) (unhide HB) (zeroQ _ _ _) AnsD.no)
      · have NX := hide (good_parts hg1)
        have NY := hide (good_parts hg2)
        have GG := hide (And.intro hg1 hg2)
        have LX : Hid (b.n ≤ 40 ∧ b'.n ≤ 40 ∧ 1 ≤ b'.n) := hide (by have := (good_parts hg1).2.2.1; have := (good_parts hg2).2.2.1; have := (unhide HX).ar.len; have := (unhide HY).ar.len; omega)
        have C1 := hide (fun w1 (k : Sl w1 b.a d.xs) => goodS_any b.g b.a b.n b.c d.xs w1 k (unhide HX).ar.len (Nat.le_trans (unhide HX).ar.cap (unhide HX).ar.top))
        rw [(unhide HX).sg, hg1, ← (unhide HX).sg] at C1
        have C2 := hide (fun w1 (k : Sl w1 b'.a d'.xs) => goodS_any b'.g b'.a b'.n b'.c d'.xs w1 k (unhide HY).ar.len (Nat.le_trans (unhide HY).ar.cap (unhide HY).ar.top))
        rw [(unhide HY).sg, hg2, ← (unhide HY).sg] at C2
        have B0 := hide (show Below w.heap.size w ((((w.alloc (.cells #[.bool b.g, .slice b.a b.n b.c] 25)).alloc (.cells #[.bool b'.g, .slice b'.a b'.n b'.c] 25)).alloc (.cells #[.bool false, .slice none 0 0] 25)).alloc (.cells #[.bool false, .slice none 0 0] 25)) from (((((Below.refl _ _).alloc (by simp) _).alloc (by simp) _).alloc (by simp <;> omega) _).alloc (by simp <;> omega) _))
        have hn : ¬ ((b'.n : Int) = 0) := by have := (unhide HY).ar.len; omega
        have CD := hide (fun w1 (k : AllAr w1 [(b, d)]) (k' : AllAr w1 [(b', d')]) => l1DivD b b' d d' w1 k k' hg1 hg2 h0)
        have H0 := hide h0
        clear hg1 hg2 h0
        go_enter Try.func13, Try.ntmps13
        go_wp2_with fail
        refine (unhide C1 _ ((unhide HX).ar.later (unhide B0)).sl).mono ?_
        rintro e w1 ⟨rfl, hb⟩
        have r0 : w1.cell? ⟨w.heap.size + 1 + 1, 0, none⟩ = some (.bool false) := cell_later hb (by simp [go_sem])
        have r1 : w1.cell? ⟨w.heap.size + 1 + 1, 1, none⟩ = some (.slice none 0 0) := cell_later hb (by simp [go_sem])
        have r2 : w1.cell? ⟨w.heap.size + 1 + 1 + 1, 0, none⟩ = some (.bool false) := cell_later hb (by simp [go_sem])
        have r3 : w1.cell? ⟨w.heap.size + 1 + 1 + 1, 1, none⟩ = some (.slice none 0 0) := cell_later hb (by simp [go_sem])
        have cx0 : w1.cell? ⟨w.heap.size, 0, none⟩ = some (.bool b.g) := cell_later hb (by simp [go_sem])
        have cx1 : w1.cell? ⟨w.heap.size, 1, none⟩ = some (.slice b.a b.n b.c) := cell_later hb (by simp [go_sem])
        have cy0 : w1.cell? ⟨w.heap.size + 1, 0, none⟩ = some (.bool b'.g) := cell_later hb (by simp [go_sem])
        have cy1 : w1.cell? ⟨w.heap.size + 1, 1, none⟩ = some (.slice b'.a b'.n b'.c) := cell_later hb (by simp [go_sem])
        have f0 : ∀ o, w1.frozen? ⟨w.heap.size + 1 + 1, o, none⟩ = false := fun o => frozen_later hb (by simp) (by simp [go_sem])
        have f1 : ∀ o, w1.frozen? ⟨w.heap.size + 1 + 1 + 1, o, none⟩ = false := fun o => frozen_later hb (by simp) (by simp [go_sem])
        have s1 : w.heap.size + 1 + 1 + 1 + 1 ≤ w1.heap.size := by have := hb.size; simp at this; omega
        have HB := hide (below_on (unhide B0) hb)
        clear hb
        go_wp2_with fail
        refine (unhide C2 _ ((unhide HY).ar.later (unhide HB)).sl).mono ?_
        rintro e w2 ⟨rfl, hb⟩
        replace r0 := cell_later hb r0
        replace r1 := cell_later hb r1
        replace r2 := cell_later hb r2
        replace r3 := cell_later hb r3
        replace cx0 := cell_later hb cx0
        replace cx1 := cell_later hb cx1
        replace cy0 := cell_later hb cy0
        replace cy1 := cell_later hb cy1
        replace f0 : ∀ o, w2.frozen? ⟨w.heap.size + 1 + 1, o, none⟩ = false := fun o => frozen_later hb (by omega) (f0 o)
        replace f1 : ∀ o, w2.frozen? ⟨w.heap.size + 1 + 1 + 1, o, none⟩ = false := fun o => frozen_later hb (by omega) (f1 o)
        replace s1 : w.heap.size + 1 + 1 + 1 + 1 ≤ w2.heap.size := Nat.le_trans s1 hb.size
        replace HB := hide (below_on (unhide HB) hb)
        clear hb
        go_wp2_with fail
        refine (unhide CD _ (AllAr.cons ((unhide HX).later (unhide HB)) (AllAr.nil _)) (AllAr.cons ((unhide HY).later (unhide HB)) (AllAr.nil _))).mono ?_
        rintro e w3 ⟨x1, x2, zs, rs, rfl, hb, how, hz, hr⟩
        have OW := hide (how.wide (lo' := w.heap.size + 1 + 1 + 1 + 1) (by omega) (Nat.le_refl _))
        have NN := hide (And.intro hz hr)
        clear how hz hr
        replace r0 := cell_later hb r0
        replace r1 := cell_later hb r1
        replace r2 := cell_later hb r2
        replace r3 := cell_later hb r3
        replace f0 : ∀ o, w3.frozen? ⟨w.heap.size + 1 + 1, o, none⟩ = false := fun o => frozen_later hb (by omega) (f0 o)
        replace f1 : ∀ o, w3.frozen? ⟨w.heap.size + 1 + 1 + 1, o, none⟩ = false := fun o => frozen_later hb (by omega) (f1 o)
        replace s1 : w.heap.size + 1 + 1 + 1 + 1 ≤ w3.heap.size := Nat.le_trans s1 hb.size
        replace HB := hide (below_on (unhide HB) hb)
        clear hb
        go_upto_region 4 with fail
        have hb : Below w3.heap.size w3 ((w3.alloc (.cells #[.bool x1.g, .slice x1.a x1.n x1.c] 25)).alloc (.cells #[.bool x2.g, .slice x2.a x2.n x2.c] 25)) := (((Below.refl _ _).alloc (by simp) _).alloc (by simp) _)
        have e0 : ((w3.alloc (.cells #[.bool x1.g, .slice x1.a x1.n x1.c] 25)).alloc (.cells #[.bool x2.g, .slice x2.a x2.n x2.c] 25)).cell? ⟨w3.heap.size, 0, none⟩ = some (.bool x1.g) := by simp [go_sem]
        have e1 : ((w3.alloc (.cells #[.bool x1.g, .slice x1.a x1.n x1.c] 25)).alloc (.cells #[.bool x2.g, .slice x2.a x2.n x2.c] 25)).cell? ⟨w3.heap.size, 1, none⟩ = some (.slice x1.a x1.n x1.c) := by simp [go_sem]
        have e2 : ((w3.alloc (.cells #[.bool x1.g, .slice x1.a x1.n x1.c] 25)).alloc (.cells #[.bool x2.g, .slice x2.a x2.n x2.c] 25)).cell? ⟨w3.heap.size + 1, 0, none⟩ = some (.bool x2.g) := by simp [go_sem]
        have e3 : ((w3.alloc (.cells #[.bool x1.g, .slice x1.a x1.n x1.c] 25)).alloc (.cells #[.bool x2.g, .slice x2.a x2.n x2.c] 25)).cell? ⟨w3.heap.size + 1, 1, none⟩ = some (.slice x2.a x2.n x2.c) := by simp [go_sem]
        have OW2 := hide (((unhide OW).later hb).wide (Nat.le_refl _) hb.size)
        clear OW
        have ne1 : w3.heap.size ≠ w.heap.size + 1 + 1 := by omega
        have ne2 : w3.heap.size + 1 ≠ w.heap.size + 1 + 1 := by omega
        have ne3 : w3.heap.size ≠ w.heap.size + 1 + 1 + 1 := by omega
        have ne4 : w3.heap.size + 1 ≠ w.heap.size + 1 + 1 + 1 := by omega
        replace r0 := cell_later hb r0
        replace r1 := cell_later hb r1
        replace r2 := cell_later hb r2
        replace r3 := cell_later hb r3
        replace f0 : ∀ o, ((w3.alloc (.cells #[.bool x1.g, .slice x1.a x1.n x1.c] 25)).alloc (.cells #[.bool x2.g, .slice x2.a x2.n x2.c] 25)).frozen? ⟨w.heap.size + 1 + 1, o, none⟩ = false := fun o => frozen_later hb (by omega) (f0 o)
        replace f1 : ∀ o, ((w3.alloc (.cells #[.bool x1.g, .slice x1.a x1.n x1.c] 25)).alloc (.cells #[.bool x2.g, .slice x2.a x2.n x2.c] 25)).frozen? ⟨w.heap.size + 1 + 1 + 1, o, none⟩ = false := fun o => frozen_later hb (by omega) (f1 o)
        replace s1 : w.heap.size + 1 + 1 + 1 + 1 ≤ ((w3.alloc (.cells #[.bool x1.g, .slice x1.a x1.n x1.c] 25)).alloc (.cells #[.bool x2.g, .slice x2.a x2.n x2.c] 25)).heap.size := Nat.le_trans s1 hb.size
        replace HB := hide (below_on (unhide HB) hb)
        clear hb
        generalize ((w3.alloc (.cells #[.bool x1.g, .slice x1.a x1.n x1.c] 25)).alloc (.cells #[.bool x2.g, .slice x2.a x2.n x2.c] 25)) = w4 at *
        generalize w3.heap.size = G4 at *
        go_region_held3 (fun w' => w'.cell? ⟨G4, 0, none⟩ = some (.bool x1.g) ∧ w'.cell? ⟨G4, 1, none⟩ = some (.slice x1.a x1.n x1.c) ∧ w'.cell? ⟨G4 + 1, 0, none⟩ = some (.bool x2.g) ∧ w'.cell? ⟨G4 + 1, 1, none⟩ = some (.slice x2.a x2.n x2.c)) (with_reducible (first | exact ⟨e0, e1, e2, e3⟩ | exact ⟨cd_other e0, cd_other e1, cd_other e2, cd_other e3⟩ | exact ⟨cd_other (cs_other (cs_other (e0) ne1) ne1), cd_other (cs_other (cs_other (e1) ne1) ne1), cd_other (cs_other (cs_other (e2) ne2) ne2), cd_other (cs_other (cs_other (e3) ne2) ne2)⟩ | exact ⟨cd_other (cs_other (cs_other (cs_other (cs_other (e0) ne1) ne1) ne3) ne3), cd_other (cs_other (cs_other (cs_other (cs_other (e1) ne1) ne1) ne3) ne3), cd_other (cs_other (cs_other (cs_other (cs_other (e2) ne2) ne2) ne4) ne4), cd_other (cs_other (cs_other (cs_other (cs_other (e3) ne2) ne2) ne4) ne4)⟩ | fail)) (fail)
        all_goals go_wp2
        all_goals exact bodyPost_ret (v := .tuple #[.agg #[.bool x1.g, .slice x1.a x1.n x1.c], .agg #[.bool x2.g, .slice x2.a x2.n x2.c], .bool true]) (by simp [results, Try.results13, go_sem, r0, r1, r2, r3]) rfl (RetD.drew (retD_fin (v := ⟨x1, x2⟩) (d := ⟨⟨decide (qD d d' < 0), zs⟩, ⟨decide (rD d d' < 0), rs⟩⟩) (R := w.heap.size + 1 + 1) (by omega) (unhide HB) (unhide OW2) (ansD_yes (unhide GG).1 (unhide GG).2 (unhide H0) (unhide NN).1 (unhide NN).2)))

set_option maxHeartbeats 4000000 in
theorem DivI_a (b b' : BV) (d d' : BD) (w : World) (h : AllAr w [(b, d)]) (h' : AllAr w [(b', d')]) : Calls Try.prog 12 #[.agg #[.bool b.g, .slice b.a b.n b.c], .agg #[.bool b'.g, .slice b'.a b'.n b'.c]] w (RetD w (AnsD (pD d d') (qD d d') (rD d d'))) := by
  have HX := hide h.head
  have HY := hide h'.head
  clear h h'
  cases hP : (goodB d.g d.xs && goodB d'.g d'.xs)
  · have C1 := hide (fun w1 (k : Sl w1 b.a d.xs) (k' : Sl w1 b'.a d'.xs) => pair_any b.g b'.g b.a b'.a b.n b'.n b.c b'.c d.xs d'.xs w1 k k' (unhide HX).ar.len (unhide HY).ar.len (Nat.le_trans (unhide HX).ar.cap (unhide HX).ar.top) (Nat.le_trans (unhide HY).ar.cap (unhide HY).ar.top))
    rw [(unhide HX).sg, (unhide HY).sg, hP, ← (unhide HX).sg, ← (unhide HY).sg] at C1
    have B0 := hide (show Below w.heap.size w ((((w.alloc (.cells #[.bool b.g, .slice b.a b.n b.c] 25)).alloc (.cells #[.bool b'.g, .slice b'.a b'.n b'.c] 25)).alloc (.cells #[.bool false, .slice none 0 0] 25)).alloc (.cells #[.bool false, .slice none 0 0] 25)) from (((((Below.refl _ _).alloc (by simp) _).alloc (by simp) _).alloc (by simp <;> omega) _).alloc (by simp <;> omega) _))
    have hp : pD d d' = false := by unfold pD; rw [hP]; rfl
    rw [hp]
    go_enter Try.func12, Try.ntmps12
    go_wp2_with fail
    refine (unhide C1 _ ((unhide HX).ar.later (unhide B0)).sl ((unhide HY).ar.later (unhide B0)).sl).mono ?_
    rintro e w1 ⟨rfl, hb⟩
    have r0 : w1.cell? ⟨w.heap.size + 1 + 1, 0, none⟩ = some (.bool false) := cell_later hb (by simp [go_sem])
    have r1 : w1.cell? ⟨w.heap.size + 1 + 1, 1, none⟩ = some (.slice none 0 0) := cell_later hb (by simp [go_sem])
    have r2 : w1.cell? ⟨w.heap.size + 1 + 1 + 1, 0, none⟩ = some (.bool false) := cell_later hb (by simp [go_sem])
    have r3 : w1.cell? ⟨w.heap.size + 1 + 1 + 1, 1, none⟩ = some (.slice none 0 0) := cell_later hb (by simp [go_sem])
    have f0 : ∀ o, w1.frozen? ⟨w.heap.size + 1 + 1, o, none⟩ = false := fun o => frozen_later hb (by simp) (by simp [go_sem])
    have f1 : ∀ o, w1.frozen? ⟨w.heap.size + 1 + 1 + 1, o, none⟩ = false := fun o => frozen_later hb (by simp) (by simp [go_sem])
    have s1 : w.heap.size + 1 + 1 + 1 + 1 ≤ w1.heap.size := by have := hb.size; simp at this; omega
    have HB := hide (below_on (unhide B0) hb)
    clear hb
    go_wp2
    exact bodyPost_ret (v := .tuple #[.agg #[.bool false, .slice none 0 0], .agg #[.bool false, .slice none 0 0], .bool false]) (by simp [results, Try.results12, go_sem, r0, r1, r2, r3]) rfl (retD_fin (v := ⟨⟨false, none, 0, 0⟩, ⟨false, none, 0, 0⟩⟩) (d := ⟨⟨false, []⟩, ⟨false, []⟩⟩) (R := w.heap.size + 1 + 1) (by omega) (unhide HB) (zeroQ _ _ _) AnsD.no)
  · by_cases h0 : d'.xs.length = 0
    · have C1 := hide (fun w1 (k : Sl w1 b.a d.xs) (k' : Sl w1 b'.a d'.xs) => pair_any b.g b'.g b.a b'.a b.n b'.n b.c b'.c d.xs d'.xs w1 k k' (unhide HX).ar.len (unhide HY).ar.len (Nat.le_trans (unhide HX).ar.cap (unhide HX).ar.top) (Nat.le_trans (unhide HY).ar.cap (unhide HY).ar.top))
      rw [(unhide HX).sg, (unhide HY).sg, hP, ← (unhide HX).sg, ← (unhide HY).sg] at C1
      have B0 := hide (show Below w.heap.size w ((((w.alloc (.cells #[.bool b.g, .slice b.a b.n b.c] 25)).alloc (.cells #[.bool b'.g, .slice b'.a b'.n b'.c] 25)).alloc (.cells #[.bool false, .slice none 0 0] 25)).alloc (.cells #[.bool false, .slice none 0 0] 25)) from (((((Below.refl _ _).alloc (by simp) _).alloc (by simp) _).alloc (by simp <;> omega) _).alloc (by simp <;> omega) _))
      have hp : pD d d' = false := by unfold pD; rw [hP, h0]; rfl
      rw [hp]
      have HN : Hid (b'.n = 0) := hide (by have := (unhide HY).ar.len; omega)
      clear h0
      go_enter Try.func12, Try.ntmps12
      go_wp2_with fail
      refine (unhide C1 _ ((unhide HX).ar.later (unhide B0)).sl ((unhide HY).ar.later (unhide B0)).sl).mono ?_
      rintro e w1 ⟨rfl, hb⟩
      have r0 : w1.cell? ⟨w.heap.size + 1 + 1, 0, none⟩ = some (.bool false) := cell_later hb (by simp [go_sem])
      have r1 : w1.cell? ⟨w.heap.size + 1 + 1, 1, none⟩ = some (.slice none 0 0) := cell_later hb (by simp [go_sem])
      have r2 : w1.cell? ⟨w.heap.size + 1 + 1 + 1, 0, none⟩ = some (.bool false) := cell_later hb (by simp [go_sem])
      have r3 : w1.cell? ⟨w.heap.size + 1 + 1 + 1, 1, none⟩ = some (.slice none 0 0) := cell_later hb (by simp [go_sem])
      have cy0 : w1.cell? ⟨w.heap.size + 1, 0, none⟩ = some (.bool b'.g) := cell_later hb (by simp [go_sem])
      have cy1 : w1.cell? ⟨w.heap.size + 1, 1, none⟩ = some (.slice b'.a b'.n b'.c) := cell_later hb (by simp [go_sem])
      have f0 : ∀ o, w1.frozen? ⟨w.heap.size + 1 + 1, o, none⟩ = false := fun o => frozen_later hb (by simp) (by simp [go_sem])
      have f1 : ∀ o, w1.frozen? ⟨w.heap.size + 1 + 1 + 1, o, none⟩ = false := fun o => frozen_later hb (by simp) (by simp [go_sem])
      have s1 : w.heap.size + 1 + 1 + 1 + 1 ≤ w1.heap.size := by have := hb.size; simp at this; omega
      have HB := hide (below_on (unhide B0) hb)
      clear hb
      have hn0 : ((b'.n : Nat) : Int) = 0 := by have := unhide HN; omega
      go_wp2
      exact bodyPost_ret (v := .tuple #[.agg #[.bool false, .slice none 0 0], .agg #[.bool false, .slice none 0 0], .bool false]) (by simp [results, Try.results12, go_sem, r0, r1, r2, r3]) rfl (retD_fin (v := ⟨⟨false, none, 0, 0⟩, ⟨false, none, 0, 0⟩⟩) (d := ⟨⟨false, []⟩, ⟨false, []⟩⟩) (R := w.heap.size + 1 + 1) (by omega) (unhide HB) (zeroQ _ _ _) AnsD.no)
    · have hg1 : goodB d.g d.xs = true := by revert hP; cases goodB d.g d.xs <;> simp
      have hg2 : goodB d'.g d'.xs = true := by revert hP; cases goodB d'.g d'.xs <;> simp
      have NX := hide (good_parts hg1)
      have NY := hide (good_parts hg2)
      have GG := hide (And.intro hg1 hg2)
      have LX : Hid (b.n ≤ 40 ∧ b'.n ≤ 40 ∧ 1 ≤ b'.n) := hide (by have := (good_parts hg1).2.2.1; have := (good_parts hg2).2.2.1; have := (unhide HX).ar.len; have := (unhide HY).ar.len; omega)
      have C1 := hide (fun w1 (k : Sl w1 b.a d.xs) (k' : Sl w1 b'.a d'.xs) => pair_any b.g b'.g b.a b'.a b.n b'.n b.c b'.c d.xs d'.xs w1 k k' (unhide HX).ar.len (unhide HY).ar.len (Nat.le_trans (unhide HX).ar.cap (unhide HX).ar.top) (Nat.le_trans (unhide HY).ar.cap (unhide HY).ar.top))
      rw [(unhide HX).sg, (unhide HY).sg, hP, ← (unhide HX).sg, ← (unhide HY).sg] at C1
      have B0 := hide (show Below w.heap.size w ((((w.alloc (.cells #[.bool b.g, .slice b.a b.n b.c] 25)).alloc (.cells #[.bool b'.g, .slice b'.a b'.n b'.c] 25)).alloc (.cells #[.bool false, .slice none 0 0] 25)).alloc (.cells #[.bool false, .slice none 0 0] 25)) from (((((Below.refl _ _).alloc (by simp) _).alloc (by simp) _).alloc (by simp <;> omega) _).alloc (by simp <;> omega) _))
      have SX := hide (And.intro (unhide HX).sg (unhide HY).sg)
      have YP := hide (val_pos_of (unhide NY).1 (unhide NY).2.1 h0)
      have hn : ¬ ((b'.n : Int) = 0) := by have := (unhide HY).ar.len; omega
      have H0 := hide h0
      clear hg1 hg2 h0 hP
      go_enter Try.func12, Try.ntmps12
      go_wp2_with fail
      refine (unhide C1 _ ((unhide HX).ar.later (unhide B0)).sl ((unhide HY).ar.later (unhide B0)).sl).mono ?_
      rintro e w1 ⟨rfl, hb⟩
      have r0 : w1.cell? ⟨w.heap.size + 1 + 1, 0, none⟩ = some (.bool false) := cell_later hb (by simp [go_sem])
      have r1 : w1.cell? ⟨w.heap.size + 1 + 1, 1, none⟩ = some (.slice none 0 0) := cell_later hb (by simp [go_sem])
      have r2 : w1.cell? ⟨w.heap.size + 1 + 1 + 1, 0, none⟩ = some (.bool false) := cell_later hb (by simp [go_sem])
      have r3 : w1.cell? ⟨w.heap.size + 1 + 1 + 1, 1, none⟩ = some (.slice none 0 0) := cell_later hb (by simp [go_sem])
      have cx0 : w1.cell? ⟨w.heap.size, 0, none⟩ = some (.bool b.g) := cell_later hb (by simp [go_sem])
      have cx1 : w1.cell? ⟨w.heap.size, 1, none⟩ = some (.slice b.a b.n b.c) := cell_later hb (by simp [go_sem])
      have cy0 : w1.cell? ⟨w.heap.size + 1, 0, none⟩ = some (.bool b'.g) := cell_later hb (by simp [go_sem])
      have cy1 : w1.cell? ⟨w.heap.size + 1, 1, none⟩ = some (.slice b'.a b'.n b'.c) := cell_later hb (by simp [go_sem])
      have f0 : ∀ o, w1.frozen? ⟨w.heap.size + 1 + 1, o, none⟩ = false := fun o => frozen_later hb (by simp) (by simp [go_sem])
      have f1 : ∀ o, w1.frozen? ⟨w.heap.size + 1 + 1 + 1, o, none⟩ = false := fun o => frozen_later hb (by simp) (by simp [go_sem])
      have s1 : w.heap.size + 1 + 1 + 1 + 1 ≤ w1.heap.size := by have := hb.size; simp at this; omega
      have HB := hide (below_on (unhide B0) hb)
      clear hb
      go_wp2_with fail
      refine (divI_any b.a b'.a b.n b'.n b.c b'.c d.xs d'.xs _ ((unhide HX).ar.later (unhide HB)) ((unhide HY).ar.later (unhide HB)) (unhide NX).1 (unhide NX).2.1 (unhide NY).1 (unhide NY).2.1 (unhide LX).2.2 (by have := unhide LX; omega) (by have := unhide LX; omega)).mono ?_
      rintro e w2 ⟨a2, n2, c2, zs, a3, n3, c3, rs, rfl, hb, ho2, ha2, hn2, ho3, ha3, hn3, hap⟩
      have hmid := mid_of ho2 ho3 hap hb.size
      obtain ⟨mid, m1, m2, om1, om2⟩ := hmid
      have N2 := hide hn2
      have N3 := hide hn3
      have A2 := hide (ha2)
      have A3 := hide (ha3)
      have O2 := hide (om1.wide (lo' := w.heap.size + 1 + 1 + 1 + 1) (by omega) (Nat.le_refl _))
      have O3 := hide om2
      have m1' : w.heap.size + 1 + 1 + 1 + 1 ≤ mid := Nat.le_trans s1 m1
      clear ho2 ha2 hn2 ho3 ha3 hn3 hap om1 om2 m1
      replace r0 := cell_later hb r0
      replace r1 := cell_later hb r1
      replace r2 := cell_later hb r2
      replace r3 := cell_later hb r3
      replace cx0 := cell_later hb cx0
      replace cy0 := cell_later hb cy0
      replace f0 : ∀ o, w2.frozen? ⟨w.heap.size + 1 + 1, o, none⟩ = false := fun o => frozen_later hb (by omega) (f0 o)
      replace f1 : ∀ o, w2.frozen? ⟨w.heap.size + 1 + 1 + 1, o, none⟩ = false := fun o => frozen_later hb (by omega) (f1 o)
      replace s1 : w.heap.size + 1 + 1 + 1 + 1 ≤ w2.heap.size := Nat.le_trans s1 hb.size
      replace HB := hide (below_on (unhide HB) hb)
      clear hb
      clear cx1 cy1
      have k0_0 := cx0
      have k1_0 := cy0
      have k2_0 := r0
      have k2_1 := r1
      have k3_0 := r2
      have k3_1 := r3
      have z2 := f0
      have z3 := f1
      clear cx0 cy0 r0 r1 r2 r3 f0 f1
      have ne : (w.heap.size ≠ w.heap.size + 1 + 1) ∧ (w.heap.size + 1 ≠ w.heap.size + 1 + 1) ∧ (w.heap.size ≠ w.heap.size + 1 + 1 + 1) ∧ (w.heap.size + 1 ≠ w.heap.size + 1 + 1 + 1) := by omega
      go_upto_region 4 with fail
      go_region_held3 (fun w' => w'.cell? ⟨w.heap.size, 0, none⟩ = some (.bool b.g) ∧ w'.cell? ⟨w.heap.size + 1, 0, none⟩ = some (.bool b'.g)) (with_reducible (first | exact ⟨k0_0, k1_0⟩ | exact ⟨cd_other k0_0, cd_other k1_0⟩ | exact ⟨j0, j1⟩ | exact ⟨i0, i1⟩ | exact ⟨cs_other (cs_other i0 ne.1) ne.1, cs_other (cs_other i1 ne.2.1) ne.2.1⟩ | exact ⟨cs_other (cs_other (cs_other (cs_other i0 ne.1) ne.1) ne.2.2.1) ne.2.2.1, cs_other (cs_other (cs_other (cs_other i1 ne.2.1) ne.2.1) ne.2.2.2) ne.2.2.2⟩ | fail))
        (first
        | (go_at_call_of 51 (Value.bool (!(b.g == b'.g))); refine (signI_v _ a2 n2 c2 zs _ (w.heap.size + 1 + 1 + 1 + 1) mid (val d.xs / val d'.xs) (?_) (?_) (unhide N2)).mono ?_; exact (unhide A2).drew; exact (unhide O2).later (Below.refl _ _).drew; rintro e w3 ⟨x1, rfl, hb', ow1, ar1⟩; have hb := below_of_drew hb'; have s3 := hb.size; have OW1 := hide ow1; have A3b := hide ((unhide A3).later hb); have O3b := hide ((unhide O3).later hb); have B3 := hide hb; have j0 := cell_later hb k0_0; have j1 := cell_later hb k1_0; have j2 := cell_later hb k2_0; have j3 := cell_later hb k2_1; have j4 := cell_later hb k3_0; have j5 := cell_later hb k3_1; have y2 := fun o => frozen_later hb (World.block_lt_of_cell? _ _ k2_0) (z2 o); have y3 := fun o => frozen_later hb (World.block_lt_of_cell? _ _ k3_0) (z3 o); clear ow1 ar1 hb hb')
        | (go_at_call_of 51 (Value.bool b.g); refine (signI_v _ a3 n3 c3 rs _ mid w2.heap.size (val d.xs % val d'.xs) (?_) (?_) (unhide N3)).mono ?_; exact unhide A3b; exact unhide O3b; rintro e w4 ⟨x2, rfl, hb, ow2, ar2⟩; have s4 := hb.size; have OW2 := hide ow2; have OW1b := hide ((unhide OW1).later hb); have B4 := hide hb; have i0 := cell_later hb j0; have i1 := cell_later hb j1; have i2 := cell_later hb j2; have i3 := cell_later hb j3; have i4 := cell_later hb j4; have i5 := cell_later hb j5; have u2 := fun o => frozen_later hb (World.block_lt_of_cell? _ _ j2) (y2 o); have u3 := fun o => frozen_later hb (World.block_lt_of_cell? _ _ j4) (y3 o); clear ow2 ar2 hb))
      all_goals
        have HB2 := hide (below_on (below_on (unhide HB) (unhide B3)) (unhide B4))
        go_wp2
        refine bodyPost_ret (v := .tuple #[.agg #[.bool x1.g, .slice x1.a x1.n x1.c], .agg #[.bool x2.g, .slice x2.a x2.n x2.c], .bool true]) (by simp [results, Try.results12, go_sem, i2, i3, i4, i5]) rfl ?_
        have a1 := unhide OW1b
        have a2' := unhide OW2
        rw [(unhide SX).1, (unhide SX).2] at a1
        rw [(unhide SX).1] at a2'
        exact retD_fin (v := ⟨x1, x2⟩) (d := ⟨⟨decide (qD d d' < 0), zs⟩, ⟨decide (rD d d' < 0), rs⟩⟩) (R := w.heap.size + 1 + 1) (by omega) (unhide HB2) ((a1.join a2' (by omega) (by omega)).wide (by omega) (by omega)) (ansD_yes (unhide GG).1 (unhide GG).2 (unhide H0) (unhide N2) (unhide N3))
end Go.Proofs.Ytagnhgefdcckoaa
namespace Go.Proofs.Ytagnhgefdcckoaa
open Go.RowKit
set_option linter.unusedVariables false
set_option maxRecDepth 100000
set_option linter.unusedSimpArgs false

theorem below_via {w w1 w2 : World} (h : Below w.heap.size w w1) (k : Below w1.heap.size w1 w2) : Below w.heap.size w w2 := h.trans (k.mono h.size)
def cmpOk (g : Bool) (xs : List Int) (g' : Bool) (ys : List Int) : Bool := goodB g xs && goodB g' ys
def cmpV (g : Bool) (xs : List Int) (g' : Bool) (ys : List Int) : Int := if cmpOk g xs g' ys then cmpB g xs g' ys else 0

set_option maxHeartbeats 1000000 in
theorem CompareI_any (g g' : Bool) (a a' : Option Addr) (n m c c' : Nat) (xs ys : List Int) (w : World) (hx : Sl w a xs) (hy : Sl w a' ys) (hn : xs.length = n) (hn' : ys.length = m) (hm : n ≤ maxLen) (hm' : m ≤ maxLen) :
    Calls Try.prog 19 #[.agg #[.bool g, .slice a n c], .agg #[.bool g', .slice a' m c']] w fun e w' => e = .returned (.tuple #[.int .i64 (cmpV g xs g' ys), .bool (cmpOk g xs g' ys)]) ∧ Below w.heap.size w w' := by
  have HX := hide hx
  have HY := hide hy
  have HN := hide hn
  have HN' := hide hn'
  clear hx hy hn hn'
  cases hg : cmpOk g xs g' ys
  · have hv : cmpV g xs g' ys = 0 := by simp [cmpV, hg]
    rw [hv]
    have hg' : (goodB g xs && goodB g' ys) = false := hg
    clear hg hv
    go_enter Try.func19, Try.ntmps19
    go_wp2_with fail
    refine (pair_any g g' a a' n m c c' xs ys _ ((unhide HX).later (Nat.le_refl _) (below_two _ _ _)) ((unhide HY).later (Nat.le_refl _) (below_two _ _ _)) (unhide HN) (unhide HN') hm hm').mono ?_
    rintro e w1 ⟨rfl, hb⟩
    rw [hg']
    go_wp2
    go_ret2
    exact ⟨rfl, below_two' hb⟩
  · have hv : cmpV g xs g' ys = cmpB g xs g' ys := by simp [cmpV, hg]
    rw [hv]
    have hg' : (goodB g xs && goodB g' ys) = true := hg
    clear hg hv
    go_enter Try.func19, Try.ntmps19
    go_wp2_with fail
    refine (pair_any g g' a a' n m c c' xs ys _ ((unhide HX).later (Nat.le_refl _) (below_two _ _ _)) ((unhide HY).later (Nat.le_refl _) (below_two _ _ _)) (unhide HN) (unhide HN') hm hm').mono ?_
    rintro e w1 ⟨rfl, hb⟩
    rw [hg']
    have x0 : w1.cell? ⟨w.heap.size, 0, none⟩ = some (.bool g) := cell_later hb (by simp [go_sem])
    have x1 : w1.cell? ⟨w.heap.size, 1, none⟩ = some (.slice a n c) := cell_later hb (by simp [go_sem])
    have y0 : w1.cell? ⟨w.heap.size + 1, 0, none⟩ = some (.bool g') := cell_later hb (by simp [go_sem])
    have y1 : w1.cell? ⟨w.heap.size + 1, 1, none⟩ = some (.slice a' m c') := cell_later hb (by simp [go_sem])
    have HB := hide (below_two' hb)
    clear hb hg'
    go_wp2_with fail
    refine (cmpBI_any g g' a a' n m c c' xs ys w1 ((unhide HX).later (Nat.le_refl _) (unhide HB)) ((unhide HY).later (Nat.le_refl _) (unhide HB)) (unhide HN) (unhide HN') hm hm').mono ?_
    rintro e w2 ⟨rfl, hb2⟩
    go_wp2
    go_ret2
    exact ⟨rfl, below_via (unhide HB) hb2⟩

end Go.Proofs.Ytagnhgefdcckoaa
namespace Go.Proofs.Ytagnhgefdcckoaa
open Go.RowKit
set_option linter.unusedVariables false
set_option maxRecDepth 100000
set_option linter.unusedSimpArgs false

theorem gcd_short {xs ys zs : List Int} (ox : okL xs) (oy : okL ys) (hx : xs.length ≤ 40) (hy : ys.length ≤ 40) (h : Nm zs ((Nat.gcd (val xs).toNat (val ys).toNat : Nat) : Int)) : zs.length ≤ 40 := by
  have x0 := val_nonneg ox
  have y0 := val_nonneg oy
  by_cases h0 : 0 < (val xs).toNat
  · have := Nat.gcd_le_left (val ys).toNat h0
    exact Nat.le_trans (len_of_val ox h.ok h.tr (by rw [h.v]; omega)) hx
  · have e : (val xs).toNat = 0 := by omega
    rw [e, Nat.gcd_zero_left] at h
    exact Nat.le_trans (len_of_val oy h.ok h.tr (by rw [h.v]; omega)) hy

set_option maxHeartbeats 4000000 in
theorem GcdI_any (g g' : Bool) (a a' : Option Addr) (n m c c' : Nat) (xs ys : List Int) (w : World) (hx : Arg w a n c xs) (hy : Arg w a' m c' ys) :
    Calls Try.prog 14 #[.agg #[.bool g, .slice a n c], .agg #[.bool g', .slice a' m c']] w (OutA w (goodB g xs && goodB g' ys) (((Nat.gcd (val xs).toNat (val ys).toNat : Nat) : Int))) := by
  have HX := hide hx
  have HY := hide hy
  clear hx hy
  have B3 := hide (below_three w (.cells #[.bool g, .slice a n c] 25) (.cells #[.bool g', .slice a' m c'] 25) (.cells #[.bool false, .slice none 0 0] 25))
  cases hP : (goodB g xs && goodB g' ys)
  · go_enter Try.func14, Try.ntmps14
    go_wp2_with fail
    refine (pair_any g g' a a' n m c c' xs ys _ ((unhide HX).later (unhide B3)).sl ((unhide HY).later (unhide B3)).sl (unhide HX).len (unhide HY).len (Nat.le_trans (unhide HX).cap (unhide HX).top) (Nat.le_trans (unhide HY).cap (unhide HY).top)).mono ?_
    rintro e w1 ⟨rfl, hb1⟩
    rw [hP]
    have r0 : w1.cell? ⟨w.heap.size + 1 + 1, 0, none⟩ = some (.bool false) := cell_later hb1 (by simp [go_sem])
    have r1 : w1.cell? ⟨w.heap.size + 1 + 1, 1, none⟩ = some (.slice none 0 0) := cell_later hb1 (by simp [go_sem])
    have f0 : ∀ o, w1.frozen? ⟨w.heap.size + 1 + 1, o, none⟩ = false := fun o => frozen_later hb1 (by simp) (by simp [go_sem])
    have HB := hide ((unhide B3).trans (hb1.mono (by simp <;> omega)))
    clear hb1 hP
    go_wp2
    exact bodyPost_ret (v := .tuple #[.agg #[.bool false, .slice none 0 0], .bool false]) (by simp [results, Try.results14, go_sem, r0, r1]) rfl (outA_no (s := w.heap.size + 1 + 1) (by omega) (unhide HB) _ _)
  · have hg1 : goodB g xs = true := by revert hP; cases goodB g xs <;> simp
    have hg2 : goodB g' ys = true := by revert hP; cases goodB g' ys <;> simp
    have NX := hide (num_of_good (unhide HX) hg1)
    have NY := hide (num_of_good (unhide HY) hg2)
    have NL : Hid (n ≤ 40) := hide (by have := (good_parts hg1).2.2.1; have := (unhide HX).len; omega)
    have ML : Hid (m ≤ 40) := hide (by have := (good_parts hg2).2.2.1; have := (unhide HY).len; omega)
    clear hg1 hg2
    go_enter Try.func14, Try.ntmps14
    go_wp2_with fail
    refine (pair_any g g' a a' n m c c' xs ys _ ((unhide HX).later (unhide B3)).sl ((unhide HY).later (unhide B3)).sl (unhide HX).len (unhide HY).len (Nat.le_trans (unhide HX).cap (unhide HX).top) (Nat.le_trans (unhide HY).cap (unhide HY).top)).mono ?_
    rintro e w1 ⟨rfl, hb1⟩
    rw [hP]
    have x0 : w1.cell? ⟨w.heap.size, 0, none⟩ = some (.bool g) := cell_later hb1 (by simp [go_sem])
    have x1 : w1.cell? ⟨w.heap.size, 1, none⟩ = some (.slice a n c) := cell_later hb1 (by simp [go_sem])
    have y0 : w1.cell? ⟨w.heap.size + 1, 0, none⟩ = some (.bool g') := cell_later hb1 (by simp [go_sem])
    have y1 : w1.cell? ⟨w.heap.size + 1, 1, none⟩ = some (.slice a' m c') := cell_later hb1 (by simp [go_sem])
    have r0 : w1.cell? ⟨w.heap.size + 1 + 1, 0, none⟩ = some (.bool false) := cell_later hb1 (by simp [go_sem])
    have r1 : w1.cell? ⟨w.heap.size + 1 + 1, 1, none⟩ = some (.slice none 0 0) := cell_later hb1 (by simp [go_sem])
    have f0 : ∀ o, w1.frozen? ⟨w.heap.size + 1 + 1, o, none⟩ = false := fun o => frozen_later hb1 (by simp) (by simp [go_sem])
    have s1 : w.heap.size + 1 + 1 + 1 ≤ w1.heap.size := by have := hb1.size; simp at this; omega
    have HB := hide ((unhide B3).trans (hb1.mono (by simp <;> omega)))
    clear hb1 hP
    go_wp2_with fail
    refine (gcdI_any a a' n m c c' xs ys _ ((unhide HX).later (unhide HB)) ((unhide HY).later (unhide HB)) (unhide NX).ok (unhide NX).tr (unhide NY).ok (unhide NY).tr (by have := unhide NL; omega) (by have := unhide ML; omega)).mono ?_
    rintro e w2 ⟨a2, n2, c2, zs, rfl, hb2, ho2, ha2, hn2⟩
    replace r0 := cell_later hb2 r0
    replace r1 := cell_later hb2 r1
    have f0' := f0
    clear f0
    have f0 : ∀ o, w2.frozen? ⟨w.heap.size + 1 + 1, o, none⟩ = false := fun o => frozen_later hb2 (by omega) (f0' o)
    clear f0'
    replace HB := hide (below_on (unhide HB) hb2)
    have hsz2 := hb2.size
    have s2' : w.heap.size + 1 + 1 + 1 ≤ w2.heap.size := by omega
    have hl2 : zs.length ≤ 40 := gcd_short (unhide NX).ok (unhide NY).ok (by rw [(unhide NX).arg.len]; exact unhide NL) (by rw [(unhide NY).arg.len]; exact unhide ML) hn2
    have hnn : n2 ≤ 40 := by rw [← ha2.len]; exact hl2
    have HN2 := hide hn2
    have HF := hide (signI_out false a2 n2 c2 zs w2 (w.heap.size + 1 + 1 + 1) _ ha2 (ho2.mono (by omega)) hn2.ok hn2.v s2' (by omega))
    have HL2 := hide hl2
    clear x0 x1 y0 y1 hb2 ho2 ha2 hn2 hsz2 hl2
    go_wp2_with fail
    refine (unhide HF).mono ?_
    rintro e w9 ⟨a3, n3, c3, ts, rfl, hb3, ho3, ha3, hn3⟩
    have hans : Ans true ((Nat.gcd (val xs).toNat (val ys).toNat : Nat) : Int) (sd false ((Nat.gcd (val xs).toNat (val ys).toNat : Nat) : Int)) ts true := by
      refine .inl ⟨rfl, ts, ?_, .inl ⟨?_, rfl, rfl, rfl⟩⟩
      · rw [Int.natAbs_natCast]; exact hn3
      · rw [hn3.same (unhide HN2)]; exact unhide HL2
    replace r0 := cell_later hb3 r0
    replace r1 := cell_later hb3 r1
    replace f0 : ∀ o, w9.frozen? ⟨w.heap.size + 1 + 1, o, none⟩ = false := fun o => frozen_later hb3 (by omega) (f0 o)
    replace HB := hide (below_on (unhide HB) hb3)
    have HO := hide ho3
    have HA := hide ha3
    have HS := hide hans
    clear hb3 ho3 ha3 hans HF
    go_wp2
    exact bodyPost_ret (v := .tuple #[.agg #[.bool (sd false ((Nat.gcd (val xs).toNat (val ys).toNat : Nat) : Int)), .slice a3 n3 c3], .bool true]) (by simp [results, Try.results14, go_sem, r0, r1]) rfl (outA_of (s := w.heap.size + 1 + 1) (by omega) (unhide HB) (unhide HO) (unhide HA) (unhide HS) _ _)

set_option maxHeartbeats 4000000 in
theorem GcdS_any (g g' : Bool) (a a' : Option Addr) (n m c c' : Nat) (xs ys : List Int) (w : World) (hx : Arg w a n c xs) (hy : Arg w a' m c' ys) :
    Calls Try.prog 15 #[.agg #[.bool g, .slice a n c], .agg #[.bool g', .slice a' m c']] w (OutA w (goodB g xs && goodB g' ys) (((Nat.gcd (val xs).toNat (val ys).toNat : Nat) : Int))) := by
  have HX := hide hx
  have HY := hide hy
  clear hx hy
  have B3 := hide (below_three w (.cells #[.bool g, .slice a n c] 25) (.cells #[.bool g', .slice a' m c'] 25) (.cells #[.bool false, .slice none 0 0] 25))
  have mx := hide (Nat.le_trans (unhide HX).cap (unhide HX).top)
  have my := hide (Nat.le_trans (unhide HY).cap (unhide HY).top)
  cases hg1 : goodB g xs
  · rw [Bool.false_and]
    go_enter Try.func15, Try.ntmps15
    go_wp2_with fail
    refine (goodS_any g a n c xs _ ((unhide HX).later (unhide B3)).sl (unhide HX).len (unhide mx)).mono ?_
    rintro e w1 ⟨rfl, hb1⟩
    have r0 : w1.cell? ⟨w.heap.size + 1 + 1, 0, none⟩ = some (.bool false) := cell_later hb1 (by simp [go_sem])
    have r1 : w1.cell? ⟨w.heap.size + 1 + 1, 1, none⟩ = some (.slice none 0 0) := cell_later hb1 (by simp [go_sem])
    have f0 : ∀ o, w1.frozen? ⟨w.heap.size + 1 + 1, o, none⟩ = false := fun o => frozen_later hb1 (by simp) (by simp [go_sem])
    have HB := hide ((unhide B3).trans (hb1.mono (by simp <;> omega)))
    clear hb1
    go_wp2
    exact bodyPost_ret (v := .tuple #[.agg #[.bool false, .slice none 0 0], .bool false]) (by simp [results, Try.results15, go_sem, r0, r1]) rfl (outA_no (s := w.heap.size + 1 + 1) (by omega) (unhide HB) _ _)
  · rw [Bool.true_and]
    have NX := hide (num_of_good (unhide HX) hg1)
    cases hg2 : goodB g' ys
    · go_enter Try.func15, Try.ntmps15
      go_wp2_with fail
      refine (goodS_any g a n c xs _ ((unhide HX).later (unhide B3)).sl (unhide HX).len (unhide mx)).mono ?_
      rintro e w1 ⟨rfl, hb1⟩
      have y0 : w1.cell? ⟨w.heap.size + 1, 0, none⟩ = some (.bool g') := cell_later hb1 (by simp [go_sem])
      have y1 : w1.cell? ⟨w.heap.size + 1, 1, none⟩ = some (.slice a' m c') := cell_later hb1 (by simp [go_sem])
      have r0 : w1.cell? ⟨w.heap.size + 1 + 1, 0, none⟩ = some (.bool false) := cell_later hb1 (by simp [go_sem])
      have r1 : w1.cell? ⟨w.heap.size + 1 + 1, 1, none⟩ = some (.slice none 0 0) := cell_later hb1 (by simp [go_sem])
      have f0 : ∀ o, w1.frozen? ⟨w.heap.size + 1 + 1, o, none⟩ = false := fun o => frozen_later hb1 (by simp) (by simp [go_sem])
      have s1 : w.heap.size + 1 + 1 + 1 ≤ w1.heap.size := by have := hb1.size; simp at this; omega
      have HB := hide ((unhide B3).trans (hb1.mono (by simp <;> omega)))
      clear hb1
      go_wp2_with fail
      refine (goodS_any g' a' m c' ys _ ((unhide HY).later (unhide HB)).sl (unhide HY).len (unhide my)).mono ?_
      rintro e w2 ⟨rfl, hb2⟩
      replace r0 := cell_later hb2 r0
      replace r1 := cell_later hb2 r1
      replace f0 : ∀ o, w2.frozen? ⟨w.heap.size + 1 + 1, o, none⟩ = false := fun o => frozen_later hb2 (by omega) (f0 o)
      replace HB := hide (below_on (unhide HB) hb2)
      clear hb2
      go_wp2
      exact bodyPost_ret (v := .tuple #[.agg #[.bool false, .slice none 0 0], .bool false]) (by simp [results, Try.results15, go_sem, r0, r1]) rfl (outA_no (s := w.heap.size + 1 + 1) (by omega) (unhide HB) _ _)
    · have NY := hide (num_of_good (unhide HY) hg2)
      have NL : Hid (n ≤ 40) := hide (by have := (good_parts hg1).2.2.1; have := (unhide HX).len; omega)
      have ML : Hid (m ≤ 40) := hide (by have := (good_parts hg2).2.2.1; have := (unhide HY).len; omega)
      go_enter Try.func15, Try.ntmps15
      go_wp2_with fail
      refine (goodS_any g a n c xs _ ((unhide HX).later (unhide B3)).sl (unhide HX).len (unhide mx)).mono ?_
      rintro e w1 ⟨rfl, hb1⟩
      have x0 : w1.cell? ⟨w.heap.size, 0, none⟩ = some (.bool g) := cell_later hb1 (by simp [go_sem])
      have x1 : w1.cell? ⟨w.heap.size, 1, none⟩ = some (.slice a n c) := cell_later hb1 (by simp [go_sem])
      have y0 : w1.cell? ⟨w.heap.size + 1, 0, none⟩ = some (.bool g') := cell_later hb1 (by simp [go_sem])
      have y1 : w1.cell? ⟨w.heap.size + 1, 1, none⟩ = some (.slice a' m c') := cell_later hb1 (by simp [go_sem])
      have r0 : w1.cell? ⟨w.heap.size + 1 + 1, 0, none⟩ = some (.bool false) := cell_later hb1 (by simp [go_sem])
      have r1 : w1.cell? ⟨w.heap.size + 1 + 1, 1, none⟩ = some (.slice none 0 0) := cell_later hb1 (by simp [go_sem])
      have f0 : ∀ o, w1.frozen? ⟨w.heap.size + 1 + 1, o, none⟩ = false := fun o => frozen_later hb1 (by simp) (by simp [go_sem])
      have s1 : w.heap.size + 1 + 1 + 1 ≤ w1.heap.size := by have := hb1.size; simp at this; omega
      have HB := hide ((unhide B3).trans (hb1.mono (by simp <;> omega)))
      clear hb1
      go_wp2_with fail
      refine (goodS_any g' a' m c' ys _ ((unhide HY).later (unhide HB)).sl (unhide HY).len (unhide my)).mono ?_
      rintro e w2 ⟨rfl, hb2⟩
      replace x0 := cell_later hb2 x0
      replace x1 := cell_later hb2 x1
      replace y0 := cell_later hb2 y0
      replace y1 := cell_later hb2 y1
      replace r0 := cell_later hb2 r0
      replace r1 := cell_later hb2 r1
      replace f0 : ∀ o, w2.frozen? ⟨w.heap.size + 1 + 1, o, none⟩ = false := fun o => frozen_later hb2 (by omega) (f0 o)
      replace HB := hide (below_on (unhide HB) hb2)
      have s2 : w.heap.size + 1 + 1 + 1 ≤ w2.heap.size := Nat.le_trans s1 hb2.size
      clear hb2 s1
      go_wp2_with fail
      refine (gcdS_any a a' n m c c' xs ys _ ((unhide HX).later (unhide HB)) ((unhide HY).later (unhide HB)) (unhide NX).ok (unhide NX).tr (unhide NY).ok (unhide NY).tr (by have := unhide NL; omega) (by have := unhide ML; omega)).mono ?_
      rintro e w3 ⟨a2, n2, c2, zs, rfl, hb2, ho2, ha2, hn2⟩
      replace r0 := cell_later hb2 r0
      replace r1 := cell_later hb2 r1
      have f0' := f0
      clear f0
      have f0 : ∀ o, w3.frozen? ⟨w.heap.size + 1 + 1, o, none⟩ = false := fun o => frozen_later hb2 (by omega) (f0' o)
      clear f0'
      replace HB := hide (below_on (unhide HB) hb2)
      have hsz2 := hb2.size
      have s3' : w.heap.size + 1 + 1 + 1 ≤ w3.heap.size := by omega
      have hl2 : zs.length ≤ 40 := gcd_short (unhide NX).ok (unhide NY).ok (by rw [(unhide NX).arg.len]; exact unhide NL) (by rw [(unhide NY).arg.len]; exact unhide ML) hn2
      have hnn : n2 ≤ 40 := by rw [← ha2.len]; exact hl2
      have HN2 := hide hn2
      have HF := hide (signS_out false a2 n2 c2 zs w3 (w.heap.size + 1 + 1 + 1) _ ha2 (ho2.mono (by omega)) hn2.ok hn2.v s3' (by omega))
      have HL2 := hide hl2
      clear x0 x1 y0 y1 hb2 ho2 ha2 hn2 hsz2 hl2
      go_wp2_with fail
      refine (unhide HF).mono ?_
      rintro e w9 ⟨a3, n3, c3, ts, rfl, hb3, ho3, ha3, hn3⟩
      have hans : Ans true ((Nat.gcd (val xs).toNat (val ys).toNat : Nat) : Int) (sd false ((Nat.gcd (val xs).toNat (val ys).toNat : Nat) : Int)) ts true := by
        refine .inl ⟨rfl, ts, ?_, .inl ⟨?_, rfl, rfl, rfl⟩⟩
        · rw [Int.natAbs_natCast]; exact hn3
        · rw [hn3.same (unhide HN2)]; exact unhide HL2
      replace r0 := cell_later hb3 r0
      replace r1 := cell_later hb3 r1
      replace f0 : ∀ o, w9.frozen? ⟨w.heap.size + 1 + 1, o, none⟩ = false := fun o => frozen_later hb3 (by omega) (f0 o)
      replace HB := hide (below_on (unhide HB) hb3)
      have HO := hide ho3
      have HA := hide ha3
      have HS := hide hans
      clear hb3 ho3 ha3 hans HF
      go_wp2
      exact bodyPost_ret (v := .tuple #[.agg #[.bool (sd false ((Nat.gcd (val xs).toNat (val ys).toNat : Nat) : Int)), .slice a3 n3 c3], .bool true]) (by simp [results, Try.results15, go_sem, r0, r1]) rfl (outA_of (s := w.heap.size + 1 + 1) (by omega) (unhide HB) (unhide HO) (unhide HA) (unhide HS) _ _)
end Go.Proofs.Ytagnhgefdcckoaa
namespace Go.Proofs.Ytagnhgefdcckoaa
open Go.RowKit
set_option linter.unusedVariables false
set_option maxRecDepth 100000
set_option linter.unusedSimpArgs false

set_option maxHeartbeats 8000000 in
theorem intS_loop (g : Bool) (a : Option Addr) (n c : Nat) (xs : List Int) (w : World) (hx : Arg w a n c xs) (hg : goodB g xs = true) (hn4 : n ≤ 4) :
    Calls Try.prog 22 #[.agg #[.bool g, .slice a n c]] w fun e w' => e = .returned (.tuple #[.int .i64 (intV g xs), .bool (intOk g xs)]) ∧ Below w.heap.size w w' := by
  have HX := hide hx
  have HG := hide hg
  have ox := (good_parts hg).1
  have TX := hide (good_parts hg).2.1
  clear hx
  have d1 : ¬ ((4 : Int) < (n : Int)) := by omega
  go_enter Try.func22, Try.ntmps22
  go_wp2_with fail
  refine (goodS_any g a n c xs _ ((unhide HX).later ((Below.refl _ _).alloc (Nat.le_refl _) _)).sl (unhide HX).len (Nat.le_trans (unhide HX).cap (unhide HX).top)).mono ?_
  rintro e w1 ⟨rfl, hb1⟩
  have x0 : w1.cell? ⟨w.heap.size, 0, none⟩ = some (.bool g) := cell_later hb1 (by simp [go_sem])
  have x1 : w1.cell? ⟨w.heap.size, 1, none⟩ = some (.slice a n c) := cell_later hb1 (by simp [go_sem])
  have HB := hide (below_one' hb1)
  clear hb1
  rw [hg]
  clear hg
  go_wp2_with fail
  refine (bigOfS_any _ w1 (by omega) (by omega)).mono ?_
  rintro e w2 ⟨a2, n2, c2, zs, rfl, hb2, ho2, ha2, hn2⟩
  have AL : Hid (∀ o, Below w2.heap.size w2 (w2.alloc o)) := hide (fun o => (Below.refl _ _).alloc (Nat.le_refl _) _)
  replace x0 := cell_later hb2 x0
  replace x1 := cell_later hb2 x1
  replace HB := hide (below_on (unhide HB) hb2)
  have HA2 := hide ha2
  have HZ : Hid (Nm zs 4611686018427387904) := hide (by simpa using hn2)
  have SX := hide ((unhide HX).later (unhide HB))
  have hzz : w.heap.size < w2.heap.size := World.block_lt_of_cell? _ _ x1
  clear hb2 ho2 ha2 hn2
  go_wp2_with fail
  refine (cmpS_any a a2 n n2 c c2 xs zs _ ((unhide SX).later (unhide AL _)).sl ((unhide HA2).later (unhide AL _)).sl (unhide HX).len (unhide HA2).len (Nat.le_trans (unhide HX).cap (unhide HX).top) (Nat.le_trans (unhide HA2).cap (unhide HA2).top)).mono ?_
  rintro e w3 ⟨rfl, hb3⟩
  have CV := hide (cmpL_val ox (unhide HZ).ok (unhide TX) (unhide HZ).tr)
  have B3 := hide (below_on (unhide AL _) hb3)
  replace x0 := cell_later (unhide B3) x0
  replace x1 := cell_later (unhide B3) x1
  replace HB := hide (below_on (unhide HB) (unhide B3))
  replace SX := hide ((unhide SX).later (unhide B3))
  clear hb3 B3 AL
  generalize cmpL xs zs = cm at *
  have hcm : 0 < cm ↔ 4611686018427387904 < val xs := by have := (unhide CV).2; rw [(unhide HZ).v] at this; exact this
  by_cases hbig : 0 < cm
  · have h2 := hide (int_great (g := g) (xs := xs) (hcm.1 hbig))
    clear hcm
    go_wp2
    go_ret2
    exact ⟨ret_pair (int_no (unhide h2)).symm (unhide h2).symm, unhide HB⟩
  · have hfit : val xs ≤ 4611686018427387904 := by omega
    have h2 := hide (int_fits (unhide HG) hfit)
    have HFit := hide hfit
    clear hcm hfit
    go_wp2
    go_loop [5, 6] (fun nv iv => ∃ (k : Nat) (N : Int), k ≤ n ∧ iv = .int .i64 ((k : Int) - 1) ∧ nv = .int .i64 N ∧ 0 ≤ N ∧ N ≤ 4611686018427387904 ∧ Hid (N = val (xs.drop k))) (fun _ iv => (intOf iv + 1).toNat)
    case atStart => exact ⟨n, 0, Nat.le_refl _, rfl, rfl, by omega, by omega, hide (by rw [List.drop_of_length_le (by rw [(unhide HX).len]; exact Nat.le_refl _)]; rfl)⟩
    case round =>
      obtain ⟨k, N, hk, hi, rfl, N0, N1, HN⟩ := hrel
      cases k with
      | zero =>
        have e : (((0 : Nat) : Int) - 1) = -1 := by omega
        rw [e] at hi
        subst hi
        have HNv : Hid (N = val xs) := hide (by rw [unhide HN]; rfl)
        cases g
        · go_wp2
          go_ret2
          exact ⟨ret_pair (by rw [int_yes (unhide h2), unhide HNv]; rfl) (unhide h2).symm, unhide HB⟩
        · go_wp2
          go_ret2
          exact ⟨ret_pair (by rw [int_yes (unhide h2), unhide HNv]; rfl) (unhide h2).symm, unhide HB⟩
      | succ j =>
        have e : (((j + 1 : Nat) : Int) - 1) = j := by omega
        rw [e] at hi
        subst hi
        obtain ⟨b, off, rfl, hcx⟩ := (unhide SX).sl.at (k := j) (by rw [(unhide HX).len]; omega)
        have hxb := okL_get ox j
        have HD := hide (drop_succ (xs := xs) (k := j) (by rw [(unhide HX).len]; omega))
        have HL := hide (Int.le_trans (val_drop_le ox j) (unhide HFit))
        generalize xs.getD j 0 = x at *
        obtain ⟨hx0, hx1⟩ := hxb
        have hk1 : (j : Int) < (n : Int) := by omega
        have hN : N * 65536 + x ≤ 4611686018427387904 := by have h7 := unhide HL; rw [unhide HD, ← unhide HN] at h7; omega
        clear e
        go_wp2
        go_round
        case rel => exact ⟨j, _, by omega, rfl, rfl, by omega, by omega, hide (by rw [unhide HD, ← unhide HN]; omega)⟩
        case measure => simp [intOf]
set_option maxHeartbeats 4000000 in
theorem intS_any (g : Bool) (a : Option Addr) (n c : Nat) (xs : List Int) (w : World) (hx : Arg w a n c xs) (h1 : n ≤ 1048576) :
    Calls Try.prog 22 #[.agg #[.bool g, .slice a n c]] w fun e w' => e = .returned (.tuple #[.int .i64 (intV g xs), .bool (intOk g xs)]) ∧ Below w.heap.size w w' := by
  cases hg : goodB g xs
  · have h2 := int_bad hg
    rw [int_no h2, h2]
    have HX := hide hx
    clear hx h2
    go_enter Try.func22, Try.ntmps22
    go_wp2_with fail
    refine (goodS_any g a n c xs _ ((unhide HX).later ((Below.refl _ _).alloc (Nat.le_refl _) _)).sl (unhide HX).len (Nat.le_trans (unhide HX).cap (unhide HX).top)).mono ?_
    rintro e w1 ⟨rfl, hb1⟩
    rw [hg]
    have HB := hide (below_one' hb1)
    clear hb1 hg
    go_wp2
    go_ret2
    exact ⟨rfl, unhide HB⟩
  · by_cases h4 : n ≤ 4
    · exact intS_loop g a n c xs w hx hg h4
    · have h2 := int_long hg (by rw [hx.len]; omega)
      rw [int_no h2, h2]
      have HX := hide hx
      clear hx h2
      have d1 : (4 : Int) < (n : Int) := by omega
      go_enter Try.func22, Try.ntmps22
      go_wp2_with fail
      refine (goodS_any g a n c xs _ ((unhide HX).later ((Below.refl _ _).alloc (Nat.le_refl _) _)).sl (unhide HX).len (Nat.le_trans (unhide HX).cap (unhide HX).top)).mono ?_
      rintro e w1 ⟨rfl, hb1⟩
      rw [hg]
      have x1 : w1.cell? ⟨w.heap.size, 1, none⟩ = some (.slice a n c) := cell_later hb1 (by simp [go_sem])
      have HB := hide (below_one' hb1)
      clear hb1 hg
      go_wp2
      go_ret2
      exact ⟨rfl, unhide HB⟩

end Go.Proofs.Ytagnhgefdcckoaa
namespace Go.Proofs.Ytagnhgefdcckoaa
open Go.RowKit
set_option linter.unusedVariables false
set_option maxRecDepth 100000
set_option linter.unusedSimpArgs false

/-- Bytes that lie in a block below C. -/
def Sb (w : World) (C : Nat) (a : Option Addr) (n : Nat) : Prop := n = 0 ∨ ∃ b off, a = some ⟨b, off, none⟩ ∧ b < C ∧ ∀ i, i < n → ∃ x : Int, 0 ≤ x ∧ x ≤ 255 ∧ w.cell? ⟨b, off + i, none⟩ = some (.int .u8 x)
/-- A cursor over bytes, that has told at most T. -/
structure Cur (C T : Nat) (w : World) : Prop where
  hd : ∃ a n c, w.cell? ⟨C, 0, none⟩ = some (.slice a n c) ∧ n ≤ 9223372036854775807 ∧ Sb w C a n
  pos : ∃ i : Int, 0 ≤ i ∧ i ≤ T ∧ w.cell? ⟨C, 1, none⟩ = some (.int .i64 i)
  sd : ∃ s : Int, w.cell? ⟨C, 2, none⟩ = some (.int .u64 s)
  fz : ∀ o, w.frozen? ⟨C, o, none⟩ = false
theorem Sb.keep {w w' : World} {C : Nat} {a : Option Addr} {n : Nat} (h : Sb w C a n) (hb : But C (C + 1) w w') : Sb w' C a n := by
  rcases h with h | ⟨b, off, ea, hl, hc⟩
  · exact .inl h
  · refine .inr ⟨b, off, ea, hl, fun i hi => ?_⟩
    obtain ⟨x, x0, x1, e⟩ := hc i hi
    exact ⟨x, x0, x1, hb.cell e (.inl hl)⟩
theorem Cur.mono {C T T' : Nat} {w : World} (h : Cur C T w) (hT : T ≤ T') : Cur C T' w := by
  obtain ⟨i, i0, i1, e⟩ := h.pos
  exact ⟨h.hd, ⟨i, i0, by omega, e⟩, h.sd, h.fz⟩
theorem Cur.later {C T : Nat} {w w' : World} (h : Cur C T w) (hb : Below w.heap.size w w') : Cur C T w' := by
  obtain ⟨a, n, c, e0, hn, sb⟩ := h.hd
  obtain ⟨i, i0, i1, e1⟩ := h.pos
  obtain ⟨s, e2⟩ := h.sd
  exact ⟨⟨a, n, c, cell_later hb e0, hn, sb.keep (But.of_below hb)⟩, ⟨i, i0, i1, cell_later hb e1⟩, ⟨s, cell_later hb e2⟩, fun o => frozen_later hb (World.block_lt_of_cell? _ _ e0) (h.fz o)⟩

theorem emod_le_pos {x n : Int} (h : 0 ≤ x) (h1 : 0 ≤ n) : x % n ≤ x := by
  have h2 := Int.mul_ediv_add_emod x n
  have h3 : 0 ≤ n * (x / n) := Int.mul_nonneg h1 (Int.ediv_nonneg h h1)
  omega
theorem emod_le_me {x : Int} (n : Int) (h : 0 ≤ x) : x % n ≤ x := by
  rcases Int.lt_or_le n 0 with h1 | h1
  · rw [← Int.emod_neg]; exact emod_le_pos h (by omega)
  · exact emod_le_pos h h1
theorem But.drewM {lo hi : Nat} {w w' : World} (h : But lo hi w w') (N : Nat) : But lo hi w (w'.drewN N) := ⟨h.os, h.tape, h.output, h.size, h.block⟩
theorem and_255 (n : Int) : bits .and .u64 n 255 = n % 256 := by
  have h16 : (BitVec.ofInt 64 255).toNat = 2 ^ 8 - 1 := by decide
  have key : (BitVec.ofInt 64 n &&& BitVec.ofInt 64 255).toNat = (n % ((2 ^ 64 : Nat) : Int)).toNat % 2 ^ 8 := by
    rw [BitVec.toNat_and, BitVec.toNat_ofInt, h16, Nat.and_two_pow_sub_one_eq_mod]
  show IntKind.u64.wrap ((BitVec.ofInt 64 n &&& BitVec.ofInt 64 255).toNat : Nat) = n % 256
  rw [key, IntKind.wrap_u64]
  omega
theorem byte_255 (n : Int) : wrap64 (bits .and .u64 n 255) = n % 256 := by
  rw [and_255]
  unfold wrap64
  omega
theorem cur_set {C T : Nat} {w : World} (h : Cur C T w) {j : Int} (h0 : 0 ≤ j) (h1 : j ≤ T + 1) (t : Int) (k m : Nat) : Cur C (T + 1) ((((w.drewN k).setCell ⟨C, 1, none⟩ (.int .i64 j)).setCell ⟨C, 2, none⟩ (.int .u64 t)).drewN m) ∧ But C (C + 1) w ((((w.drewN k).setCell ⟨C, 1, none⟩ (.int .i64 j)).setCell ⟨C, 2, none⟩ (.int .u64 t)).drewN m) := by
  obtain ⟨⟨a, n, c, e0, hn, sb⟩, ⟨i, i0, i1, e1⟩, ⟨s, e2⟩, fz⟩ := h
  have hb : But C (C + 1) w ((((w.drewN k).setCell ⟨C, 1, none⟩ (.int .i64 j)).setCell ⟨C, 2, none⟩ (.int .u64 t)).drewN m) := ((((But.refl _ _ w).drewM k).set (p := ⟨C, 1, none⟩) (Nat.le_refl _) (Nat.lt_succ_self _) _).set (p := ⟨C, 2, none⟩) (Nat.le_refl _) (Nat.lt_succ_self _) _).drewM m
  refine ⟨⟨⟨a, n, c, ?_, hn, sb.keep hb⟩, ⟨j, h0, h1, ?_⟩, ⟨t, ?_⟩, fun o => ?_⟩, hb⟩
  · simp [go_sem, e0, e1, e2]
  · simp [go_sem, e0, e1, e2]
  · simp [go_sem, e0, e1, e2]
  · simp [go_sem, fz]
set_option maxHeartbeats 4000000 in
theorem next_v (C T : Nat) (w : World) (h : Cur C T w) (hT : T ≤ 1000000) :
    Calls Try.prog 146 #[.pointer (some ⟨C, 0, none⟩)] w fun e w' => ∃ x : Int, e = .returned (.int .i64 x) ∧ 0 ≤ x ∧ x ≤ 255 ∧ Cur C (T + 1) w' ∧ But C (C + 1) w w' := by
  have HCu := hide h
  obtain ⟨⟨a, n, c, e0, hn, sb⟩, ⟨i, i0, i1, e1⟩, ⟨s, e2⟩, fz⟩ := h
  by_cases hin : i < n
  · rcases sb with h | ⟨b, off, rfl, hl, hc⟩
    · exact absurd hin (by omega)
    obtain ⟨x, x0, x1, ex⟩ := hc i.toNat (by omega)
    have HC := hide hc
    clear hc
    have hne : b ≠ C := by omega
    have w1 : IntKind.i64.wrap (i + 1) = i + 1 := by rw [IntKind.wrap_i64]; omega
    have d1 : decide (i < (n : Int)) = true := by simp; omega
    have d2 : decide (i + 1 ≤ (n : Int)) = true := by simp; omega
    go_enter Try.func146, Try.ntmps146
    go_wp2
    go_quiet (fail)
    go_wp2
    go_quiet (fail)
    go_wp2
    go_quiet (fail)
    go_wp2
    go_ret
    have k := cur_set (unhide HCu) (j := i + 1) (by omega) (by omega) (IntKind.u64.wrap (IntKind.u64.wrap (IntKind.u64.wrap (s * 6364136223846793005) + x) + 1442695040888963407))
    exact ⟨x, rfl, x0, x1, (k _ _).1, (k _ _).2⟩
  · have w1 : IntKind.i64.wrap (i + 1) = i + 1 := by rw [IntKind.wrap_i64]; omega
    have d1 : decide (i < (n : Int)) = false := by simp; omega
    have d2 : decide (i + 1 ≤ (n : Int)) = false := by simp; omega
    go_enter Try.func146, Try.ntmps146
    go_wp2
    go_quiet (fail)
    go_wp2
    go_quiet (fail)
    go_wp2
    go_ret
    have k := cur_set (unhide HCu) (j := i + 1) (by omega) (by omega) (IntKind.u64.wrap (IntKind.u64.wrap (IntKind.u64.wrap (s * 6364136223846793005)) + 1442695040888963407))
    exact ⟨_, by rw [byte_255]; rfl, Int.emod_nonneg _ (by omega), by have := Int.emod_lt_of_pos ((IntKind.u64.wrap (IntKind.u64.wrap (IntKind.u64.wrap (s * 6364136223846793005)) + 1442695040888963407)) / 1099511627776) (show (0 : Int) < 256 by omega); omega, (k _ _).1, (k _ _).2⟩
set_option maxHeartbeats 4000000 in
theorem pick_v (C T : Nat) (n : Int) (w : World) (h : Cur C T w) (hT : T ≤ 999999) (h1 : n ≤ 1000000) :
    Calls Try.prog 112 #[.pointer (some ⟨C, 0, none⟩), .int .i64 n] w fun e w' => ∃ x : Int, e = .returned (.int .i64 x) ∧ 0 ≤ x ∧ (1 ≤ n → x < n) ∧ x ≤ 65535 ∧ Cur C (T + 2) w' ∧ But C (C + 1) w w' := by
  have HC := hide h
  clear h
  by_cases n1 : n ≤ 1
  · have d1 : decide (n ≤ 1) = true := by simp; omega
    go_enter Try.func112, Try.ntmps112
    go_wp2_with fail
    go_ret
    exact ⟨0, rfl, Int.le_refl _, fun h => by omega, by omega, (unhide HC).mono (by omega), But.refl _ _ _⟩
  · have d1 : decide (n ≤ 1) = false := by simp; omega
    have z1 : n ≠ 0 := by omega
    have z2 : (n == 0) = false := by simp; omega
    by_cases n2 : n > 200
    · have d2 : decide (200 < n) = true := by simp; omega
      go_enter Try.func112, Try.ntmps112
      go_wp2_with fail
      refine (next_v C T w (unhide HC) (by omega)).mono ?_
      rintro e w1 ⟨x, rfl, x0, x1, c1, b1⟩
      have xw : IntKind.i64.wrap (x * 256) = x * 256 := by rw [IntKind.wrap_i64]; omega
      replace HC := hide c1
      have HB := hide b1
      clear c1 b1
      go_wp2_with fail
      refine (next_v C (T + 1) w1 (unhide HC) (by omega)).mono ?_
      rintro e w2 ⟨y, rfl, y0, y1, c1, b1⟩
      have yw : IntKind.i64.wrap (x * 256 + y) = x * 256 + y := by rw [IntKind.wrap_i64]; omega
      replace HC := hide c1
      replace HB := hide ((unhide HB).trans b1)
      clear c1 b1
      go_wp2_with fail
      go_ret
      exact ⟨_, rfl, Int.emod_nonneg _ (by omega), fun _ => Int.emod_lt_of_pos _ (by omega), by have := emod_le_me n (show 0 ≤ x * 256 + y by omega); omega, (unhide HC).mono (by omega), unhide HB⟩
    · have d2 : decide (200 < n) = false := by simp; omega
      go_enter Try.func112, Try.ntmps112
      go_wp2_with fail
      refine (next_v C T w (unhide HC) (by omega)).mono ?_
      rintro e w1 ⟨x, rfl, x0, x1, c1, b1⟩
      replace HC := hide c1
      have HB := hide b1
      clear c1 b1
      go_wp2_with fail
      go_ret
      exact ⟨_, rfl, Int.emod_nonneg _ (by omega), fun _ => Int.emod_lt_of_pos _ (by omega), by have := emod_le_me n x0; omega, (unhide HC).mono (by omega), unhide HB⟩
set_option maxHeartbeats 4000000 in
theorem one_v (C T : Nat) (n : Int) (w : World) (h : Cur C T w) (hT : T ≤ 999999) (h1 : n ≤ 1000000) :
    Calls Try.prog 62 #[.pointer (some ⟨C, 0, none⟩), .int .i64 n] w fun e w' => ∃ b : Bool, e = .returned (.bool b) ∧ Cur C (T + 2) w' ∧ But C (C + 1) w w' := by
  have HC := hide h
  clear h
  go_enter Try.func62, Try.ntmps62
  go_wp2_with fail
  refine (pick_v C T n w (unhide HC) hT h1).mono ?_
  rintro e w1 ⟨x, rfl, x0, x1, x2, c1, b1⟩
  go_wp2_with fail
  go_ret
  exact ⟨_, rfl, c1, b1⟩
set_option maxHeartbeats 4000000 in
theorem among_v (C T : Nat) (b off n c : Nat) (zs : List Int) (w : World) (h : Cur C T w) (hT : T ≤ 999999) (hn : 1 ≤ n) (hm : n ≤ 1000000) (hl : zs.length = n) (hb : b ≠ C) (hlt : b < w.heap.size) (hz : ∀ i, i < n → w.cell? ⟨b, off + i, none⟩ = some (.int .i64 (zs.getD i 0))) :
    Calls Try.prog 113 #[.pointer (some ⟨C, 0, none⟩), .slice (some ⟨b, off, none⟩) n c] w fun e w' => ∃ x : Int, e = .returned (.int .i64 x) ∧ x ∈ zs ∧ Cur C (T + 2) w' ∧ But C (C + 1) w w' := by
  have HC := hide h
  have HZ := hide hz
  clear h hz
  go_enter Try.func113, Try.ntmps113
  go_wp2_with fail
  refine (pick_v C T n w (unhide HC) hT (by omega)).mono ?_
  rintro e w1 ⟨x, rfl, x0, x1, x2, c1, b1⟩
  have e1 := b1.cell (unhide HZ x.toNat (by omega)) (by omega)
  have i1 : x < (n : Int) := x1 (by omega)
  have MZ : Hid (zs.getD x.toNat 0 ∈ zs) := hide (by rw [List.getD_eq_getElem?_getD, List.getElem?_eq_getElem (by omega)]; exact List.getElem_mem _)
  generalize zs.getD x.toNat 0 = y at e1 MZ
  replace HC := hide c1
  have HB := hide b1
  clear c1 b1 HZ x1
  go_wp2_with fail
  go_ret
  exact ⟨_, rfl, unhide MZ, unhide HC, unhide HB⟩
end Go.Proofs.Ytagnhgefdcckoaa
namespace Go.Proofs.Ytagnhgefdcckoaa
open Go.RowKit
set_option linter.unusedVariables false
set_option maxRecDepth 100000
set_option linter.unusedSimpArgs false

theorem owns_set {w : World} {base n : Nat} {v u : Value} {p : Addr} {xs : List Value} (h : w.ownsRow base 3 1 v n xs) (hp : p.block < base) : (w.setCell p u).ownsRow base 3 1 v n xs := by
  refine ⟨h.1, ?_⟩
  rcases h.2 with h | ⟨g, cap, cur, e, hb, hg, h1⟩
  · exact .inl h
  · exact .inr ⟨g, cap, cur, e, hb, by rw [Below.heap_setCell _ _ _ _ (by omega)]; exact hg, h1⟩
theorem owns_wide {w : World} {base base' n : Nat} {v : Value} {xs : List Value} (h : w.ownsRow base 3 1 v n xs) (hb : base' ≤ base) : w.ownsRow base' 3 1 v n xs := by
  refine ⟨h.1, ?_⟩
  rcases h.2 with h | ⟨g, cap, cur, e, hg, h1⟩
  · exact .inl h
  · exact .inr ⟨g, cap, cur, e, by omega, h1⟩
theorem owns_keep {w w' : World} {base C n : Nat} {v : Value} {xs : List Value} (h : w.ownsRow base 3 1 v n xs) (hb : But C (C + 1) w w') (hC : C < base) : w'.ownsRow base 3 1 v n xs := by
  refine ⟨h.1, ?_⟩
  rcases h.2 with h | ⟨g, cap, cur, e, hg, h0, h1⟩
  · exact .inl h
  · refine .inr ⟨g, cap, cur, e, hg, ?_, h1⟩
    rw [hb.block g (by rw [Array.getElem?_eq_some_iff] at h0; exact h0.1) (by omega)]
    exact h0
set_option maxHeartbeats 1000000 in
theorem cutR_cons (b off n c : Nat) (xs : List Int) (w : World) (hn : xs.length = n) (h1 : n ≤ 1048576) (hnc : n ≤ c) (hcm : c ≤ maxLen) (hb : 0 < n → b < w.heap.size)
    (hc : ∀ i, i < n → w.cell? ⟨b, off + i, none⟩ = some (.int .i64 (xs.getD i 0))) :
    Calls Try.prog 69 #[.slice (some ⟨b, off, none⟩) n c] w fun e w' => ∃ a' n' c', e = .returned (.slice a' n' c') ∧ Below w.heap.size w w' ∧ w'.ownsRow w.heap.size 3 1 (.slice a' n' c') n' ((trim xs).map (Value.int .i64)) ∧ (trim xs).length = n' := by
  obtain ⟨i0, hi, hz0, hz1, hz2⟩ := info_parts Try.info3
  unfold maxLen at hcm
  have HN := hide hn
  have HC := hide hc
  clear hn hc
  go_enter Try.func69, Try.ntmps69
  go_wp2
  go_loop [0] (fun v => ∃ k : Nat, k ≤ n ∧ v = .slice (some ⟨b, off, none⟩) k c ∧ Hid (trim xs = trim (xs.take k))) (fun v => lenOf v)
  case atStart => exact ⟨n, Nat.le_refl _, rfl, hide (by rw [List.take_of_length_le (by rw [unhide HN]; exact Nat.le_refl _)])⟩
  case round =>
    obtain ⟨k, hk, rfl, HK⟩ := hrel
    cases k with
    | zero =>
      have hd : decide ((0 : Int) < 0) = false := by simp
      go_wp2_with (at_builtin; refine wpList_append_own _ rfl (.tmp 20) (.tmp 21) 23 rfl w.heap.size 3 i0 (.int .i64 0) 1 8 Try.underlying23 hi hz0 hz1 hz2 rfl (by decide) _ _ _ rfl (owns_empty w) ⟨b, off, none⟩ 0 c [] rfl rfl (fun j u h => by simp at h) (fun u h => by cases h) (by unfold maxLen; omega) (by omega) (by simp) ?_)
      intro v' w1 hown hg _
      obtain ⟨a', c', rfl, q2, q3⟩ := owns_shape (zs := []) hown rfl
      have OW := hide hown
      have hB := hide (below_alloc_grown hg (fun k e => by simp [Value.ownBlock] at e; omega))
      clear hown hg
      go_wp2
      go_ret
      have e : trim xs = [] := by rw [unhide HK]; rfl
      rw [e]
      exact ⟨a', _, c', rfl, unhide hB, unhide OW, rfl⟩
    | succ j =>
      have hcx := unhide HC j (by omega)
      have hts := hide (take_succ' (xs := xs) (k := j) (by rw [unhide HN]; omega))
      generalize xs.getD j 0 = x at hcx hts
      have hd : decide ((0 : Int) < (j : Int) + 1) = true := by rw [decide_eq_true_eq]; omega
      have i1 : (0 : Int) ≤ (j : Int) + 1 - 1 := by omega
      have i2 : (j : Int) + 1 - 1 < (n : Int) := by omega
      by_cases hx : x = 0
      · subst hx
        go_wp2
        go_round
        case rel => exact ⟨j, by omega, rfl, hide (by rw [unhide HK, unhide hts, trim_snoc_zero])⟩
        case measure => simp [lenOf]
      · have hx' : (x == 0) = false := by simp [hx]
        have hz : ((j : Int) + 1 == 0) = false := by simp; omega
        obtain ⟨ts, TS⟩ : ∃ ts, Hid (xs.take (j + 1) = ts) := ⟨_, hide rfl⟩
        have hcells : Hid (∀ q u, (ts.map (Value.int .i64))[q]? = some u → (w.alloc (.cells #[] 3)).cell? ((⟨b, off, none⟩ : Addr).add q) = some u) := by
          rw [← unhide TS]
          exact hide (cells_at (k := j + 1) (xs := xs) (fun i hi => by
            rw [← unhide HC i (by omega)]; exact ((Below.refl _ _).alloc (Nat.le_refl _) _).cell (by exact hb (by omega))) (by rw [unhide HN]; omega))
        have HL : Hid (ts.length = j + 1) := hide (by rw [← unhide TS]; simp; rw [unhide HN]; omega)
        have hlen := hide (show (ts.map (Value.int .i64)).length = (j + 1) * 1 by simp; rw [unhide HL])
        go_wp2_with (at_builtin; refine wpList_append_own _ rfl (.tmp 20) (.tmp 21) 23 rfl w.heap.size 3 i0 (.int .i64 0) 1 8 Try.underlying23 hi hz0 hz1 hz2 rfl (by decide) _ _ _ rfl (owns_empty w) ⟨b, off, none⟩ (j + 1) c (ts.map (Value.int .i64)) rfl (unhide hlen) (unhide hcells) (one_cells _) (by unfold maxLen; omega) (by omega) (by simp) ?_)
        intro v' w1 hown hg _
        have HE : Hid (trim xs = ts) := hide (by rw [unhide HK, unhide hts, trim_snoc_ne _ hx, ← unhide hts, unhide TS])
        obtain ⟨a', c', rfl, q2, q3⟩ := owns_shape (zs := ts) hown (unhide HL)
        have OW := hide hown
        have hB := hide (below_alloc_grown hg (fun k e => by simp [Value.ownBlock] at e; omega))
        clear hown hg
        go_wp2
        go_ret
        rw [unhide HE]
        exact ⟨a', _, c', rfl, unhide hB, unhide OW, unhide HL⟩

set_option maxHeartbeats 1000000 in
theorem cutR_none (w : World) :
    Calls Try.prog 69 #[.slice none 0 0] w fun e w' => e = .returned (.slice (some ⟨w.heap.size, 0, none⟩) 0 0) ∧ Below w.heap.size w w' ∧ w'.ownsRow w.heap.size 3 1 (.slice (some ⟨w.heap.size, 0, none⟩) 0 0) 0 [] := by
  obtain ⟨i0, hi, hz0, hz1, hz2⟩ := info_parts Try.info3
  have hd : decide ((0 : Int) < 0) = false := by simp
  go_enter Try.func69, Try.ntmps69
  go_wp2
  refine wp_loop_rounds 1 ?_
  rw [rounds_succ]
  go_wp2_with (at_builtin; refine wpList_append_own_none rfl (.tmp 20) (.tmp 21) 23 rfl w.heap.size 3 i0 1 Try.underlying23 hi _ _ _ rfl (owns_empty w) rfl ?_)
  go_wp2
  go_ret
  exact ⟨rfl, (Below.refl _ _).alloc (Nat.le_refl _) _, owns_empty w⟩

theorem cutR_any (a : Option Addr) (n c : Nat) (xs : List Int) (w : World) (hx : Arg w a n c xs) (h1 : n ≤ 1048576) :
    Calls Try.prog 69 #[.slice a n c] w fun e w' => ∃ a' n' c', e = .returned (.slice a' n' c') ∧ Below w.heap.size w w' ∧ w'.ownsRow w.heap.size 3 1 (.slice a' n' c') n' ((trim xs).map (Value.int .i64)) ∧ (trim xs).length = n' := by
  obtain ⟨hs, hn, hnc, hcm, had⟩ := hx
  rcases had with ⟨rfl, rfl⟩ | ⟨b, off, rfl⟩
  · obtain rfl : n = 0 := by omega
    obtain rfl := List.length_eq_zero_iff.1 hn
    refine (cutR_none w).mono ?_
    rintro e w' ⟨rfl, hb, ho⟩
    exact ⟨_, _, _, rfl, hb, ho, rfl⟩
  · rcases hs with rfl | ⟨b', off', e, hb, hc⟩
    · simp only [List.length_nil] at hn
      subst hn
      exact cutR_cons b off 0 c [] w rfl h1 hnc hcm (fun h => absurd h (Nat.lt_irrefl _)) (fun i hi => absurd hi (Nat.not_lt_zero _))
    · simp only [Option.some.injEq, Addr.mk.injEq, and_true] at e
      obtain ⟨rfl, rfl⟩ := e
      exact cutR_cons b off n c xs w hn h1 hnc hcm (fun _ => hb) (by rw [← hn]; exact hc)

set_option maxHeartbeats 1000000 in
theorem makeR_any (g : Bool) (a : Option Addr) (n c : Nat) (xs : List Int) (w : World) (hx : Arg w a n c xs) (h1 : n ≤ 1048576) :
    Calls Try.prog 53 #[.bool g, .slice a n c] w fun e w' => ∃ a' n' c', e = .returned (.agg #[.bool (sgn g (trim xs)), .slice a' n' c']) ∧ Below w.heap.size w w' ∧ w'.ownsRow w.heap.size 3 1 (.slice a' n' c') n' ((trim xs).map (Value.int .i64)) ∧ (trim xs).length = n' := by
  have HX := hide hx
  clear hx
  go_enter Try.func53, Try.ntmps53
  go_wp2_with fail
  have HB := hide (show ∀ o, Below w.heap.size w (w.alloc o) from fun o => (Below.refl _ _).alloc (Nat.le_refl _) _)
  refine (cutR_any a n c xs _ ((unhide HX).later (unhide HB _)) h1).mono ?_
  rintro e w1 ⟨a', k, c', rfl, hb, hown, harg⟩
  have z0 : w1.cell? ⟨w.heap.size, 0, none⟩ = some (.bool false) := cell_later hb (by simp [go_sem])
  have z1 : w1.cell? ⟨w.heap.size, 1, none⟩ = some (.slice none 0 0) := cell_later hb (by simp [go_sem])
  have f0 : ∀ o, w1.frozen? ⟨w.heap.size, o, none⟩ = false := fun o => by rw [(bcell hb).2 _ _ (by simp)]; simp [go_sem]
  have hlt : w.heap.size < w1.heap.size := by have := hb.size; simp at this; omega
  have hk := hide harg
  have fin : Hid (∀ v v', Below w.heap.size w ((w1.setCell ⟨w.heap.size, 0, none⟩ v).setCell ⟨w.heap.size, 1, none⟩ v') ∧ ((w1.setCell ⟨w.heap.size, 0, none⟩ v).setCell ⟨w.heap.size, 1, none⟩ v').ownsRow w.heap.size 3 1 (.slice a' k c') k ((trim xs).map (Value.int .i64)) ∧ (trim xs).length = k) := by
    refine hide fun v v' => ?_
    have hB : Below w.heap.size w w1 := ((Below.refl _ _).alloc (Nat.le_refl _) _).trans (hb.mono (by simp))
    exact ⟨(hB.setCell (Nat.le_refl _) _).setCell (Nat.le_refl _) _, owns_wide (owns_set (p := ⟨w.heap.size, 1, none⟩) (owns_set (p := ⟨w.heap.size, 0, none⟩) hown (by simp)) (by simp)) (by simp), harg⟩
  clear hb hown harg
  cases g
  · go_wp2
    refine bodyPost_ret (v := .agg #[.bool false, .slice a' k c']) (by simp [results, Try.results53, go_sem, z0, z1, hlt]) rfl ⟨a', k, c', rfl, ?_⟩
    exact unhide fin _ _
  · by_cases h0 : k = 0
    · subst h0
      go_wp2
      refine bodyPost_ret (v := .agg #[.bool false, .slice a' 0 c']) (by simp [results, Try.results53, go_sem, z0, z1, hlt]) rfl ⟨a', 0, c', ?_, ?_⟩
      · rw [List.length_eq_zero_iff.1 (unhide hk), sgn_nil]
      · exact unhide fin _ _
    · have hp : 0 < k := by omega
      go_wp2
      refine bodyPost_ret (v := .agg #[.bool true, .slice a' k c']) (by simp [results, Try.results53, go_sem, z0, z1, hlt, hp]) rfl ⟨a', k, c', ?_, ?_⟩
      · rw [sgn_cons (by rw [unhide hk]; exact hp)]
      · exact unhide fin _ _
theorem But.fz {lo hi : Nat} {w w' : World} (h : But lo hi w w') {b o : Nat} {x : Bool} (hc : w.frozen? ⟨b, o, none⟩ = x) (h0 : b < w.heap.size) (hb : b < lo ∨ hi ≤ b) : w'.frozen? ⟨b, o, none⟩ = x := (World.frozen?_of_block (a := ⟨b, o, none⟩) (h.block b h0 hb)).trans hc
/-- A number's box that a draw fills, as it is at first. -/
structure Zb (w : World) (G : Nat) : Prop where
  c0 : w.cell? ⟨G, 0, none⟩ = some (.bool false)
  c1 : w.cell? ⟨G, 1, none⟩ = some (.slice none 0 0)
  fz : ∀ o, w.frozen? ⟨G, o, none⟩ = false
theorem Zb.new {w : World} {t : TypeId} : Zb (w.alloc (.cells #[.bool false, .slice none 0 0] t)) w.heap.size := ⟨by simp [go_sem], by simp [go_sem], fun o => by simp [go_sem]⟩
theorem Zb.keep {w w' : World} {G lo hi : Nat} (h : Zb w G) (hb : But lo hi w w') (hg : G < lo ∨ hi ≤ G) : Zb w' G := ⟨hb.cell h.c0 hg, hb.cell h.c1 hg, fun o => hb.fz (h.fz o) (World.block_lt_of_cell? _ _ h.c0) hg⟩
theorem Zb.later {w w' : World} {G : Nat} (h : Zb w G) (hb : Below w.heap.size w w') : Zb w' G := h.keep (But.of_below (lo := G + 1) (hi := G + 1) hb) (.inl (Nat.lt_succ_self _))
theorem Cur.lt {C T : Nat} {w : World} (h : Cur C T w) : C < w.heap.size := by obtain ⟨_, _, _, e, _⟩ := h.hd; exact World.block_lt_of_cell? _ _ e
theorem al_but {w : World} {lo hi : Nat} (o : Obj) : But lo hi w (w.alloc o) := But.of_below ((Below.refl _ _).alloc (Nat.le_refl _) o)
theorem cells6 (w : World) (a b c d e f : Int) : ∀ i, i < 6 → (w.alloc (.cells #[.int .i64 a, .int .i64 b, .int .i64 c, .int .i64 d, .int .i64 e, .int .i64 f] 3)).cell? ⟨w.heap.size, 0 + i, none⟩ = some (.int .i64 ([a, b, c, d, e, f].getD i 0)) := by
  intro i hi
  match i, hi with
  | 0, _ => simp [go_sem]
  | 1, _ => simp [go_sem]
  | 2, _ => simp [go_sem]
  | 3, _ => simp [go_sem]
  | 4, _ => simp [go_sem]
  | 5, _ => simp [go_sem]
theorem cells4 (w : World) (a b c d : Int) : ∀ i, i < 4 → (w.alloc (.cells #[.int .i64 a, .int .i64 b, .int .i64 c, .int .i64 d] 3)).cell? ⟨w.heap.size, 0 + i, none⟩ = some (.int .i64 ([a, b, c, d].getD i 0)) := by
  intro i hi
  match i, hi with
  | 0, _ => simp [go_sem]
  | 1, _ => simp [go_sem]
  | 2, _ => simp [go_sem]
  | 3, _ => simp [go_sem]
theorem cells3 (w : World) (a b c : Int) : ∀ i, i < 3 → (w.alloc (.cells #[.int .i64 a, .int .i64 b, .int .i64 c] 3)).cell? ⟨w.heap.size, 0 + i, none⟩ = some (.int .i64 ([a, b, c].getD i 0)) := by
  intro i hi
  match i, hi with
  | 0, _ => simp [go_sem]
  | 1, _ => simp [go_sem]
  | 2, _ => simp [go_sem]
/-- What the draw of a number keeps on its way. -/
structure BgI (C T : Nat) (w : World) (R : Nat) (wr : World) : Prop where
  cur : Cur C T wr
  but : But C (C + 1) w wr
  res : Zb wr R
theorem BgI.step {C T T' R : Nat} {w wr w' : World} (h : BgI C T w R wr) (hc : Cur C T' w') (hb : But C (C + 1) wr w') (hR : C < R) : BgI C T' w R w' := ⟨hc, h.but.trans hb, h.res.keep hb (.inr hR)⟩
theorem BgI.later {C T R : Nat} {w wr w' : World} (h : BgI C T w R wr) (hb : Below wr.heap.size wr w') : BgI C T w R w' := ⟨h.cur.later hb, h.but.trans (But.of_below hb), h.res.later hb⟩
theorem own_grown {w w' : World} {base C n : Nat} {v : Value} {xs : List Value} (h : w.ownsRow base 3 1 v n xs) (hg : w.grownBy w' v.ownBlock) {k : Nat} (hk : k < w.heap.size) (hb : k < base) : w'.heap[k]? = w.heap[k]? := by
  refine hg.block k hk (fun e => ?_)
  rcases h.2 with ⟨rfl, _⟩ | ⟨g, cap, cur, rfl, hg', _⟩
  · simp [Value.ownBlock] at e
  · simp [Value.ownBlock] at e
    omega
theorem own_below {w w' : World} {B n : Nat} {v : Value} {xs : List Value} (h : w.ownsRow B 3 1 v n xs) (hg : w.grownBy w' v.ownBlock) (hB : B ≤ w.heap.size) : Below B w w' := ⟨hg.os, hg.tape, hg.output, hg.size, fun k hk => own_grown (C := 0) h hg (by omega) hk⟩
theorem Cur.below {B C T : Nat} {w w' : World} (h : Cur C T w) (hb : Below B w w') (hC : C < B) : Cur C T w' := by
  obtain ⟨⟨a, n, c, e0, hn, sb⟩, ⟨i, i0, i1, e1⟩, ⟨s, e2⟩, fz⟩ := h
  refine ⟨⟨a, n, c, (hb.cell (p := ⟨C, 0, none⟩) hC).trans e0, hn, ?_⟩, ⟨i, i0, i1, (hb.cell (p := ⟨C, 1, none⟩) hC).trans e1⟩, ⟨s, (hb.cell (p := ⟨C, 2, none⟩) hC).trans e2⟩, fun o => (hb.frozen (p := ⟨C, o, none⟩) hC).trans (fz o)⟩
  rcases sb with h | ⟨b, off, ea, hl, hc⟩
  · exact .inl h
  · refine .inr ⟨b, off, ea, hl, fun i hi => ?_⟩
    obtain ⟨x, x0, x1, e⟩ := hc i hi
    exact ⟨x, x0, x1, (hb.cell (p := ⟨b, off + i, none⟩) (by show b < B; omega)).trans e⟩
theorem BgI.below {C T R B : Nat} {w wr w' : World} (h : BgI C T w R wr) (hb : Below B wr w') (hC : C < B) (hR : R < B) (hw : w.heap.size ≤ B) : BgI C T w R w' :=
  ⟨h.cur.below hb hC, ⟨hb.os.trans h.but.os, hb.tape.trans h.but.tape, hb.output.trans h.but.output, Nat.le_trans h.but.size hb.size, fun k hk hj => (hb.block k (by omega)).trans (h.but.block k hk hj)⟩, ⟨(hb.cell (p := ⟨R, 0, none⟩) hR).trans h.res.c0, (hb.cell (p := ⟨R, 1, none⟩) hR).trans h.res.c1, fun o => (hb.frozen (p := ⟨R, o, none⟩) hR).trans (h.res.fz o)⟩⟩
theorem BgI.al {C T R : Nat} {w wr : World} (h : BgI C T w R wr) (o : Obj) : BgI C T w R (wr.alloc o) := h.later ((Below.refl _ _).alloc (Nat.le_refl _) o)
theorem BgI.dr {C T R : Nat} {w wr : World} (h : BgI C T w R wr) : BgI C T w R wr.drew := h.later (Below.refl _ _).drew
theorem owns_set_ne {w : World} {base n g m c : Nat} {u : Value} {p : Addr} {xs : List Value} (h : w.ownsRow base 3 1 (.slice (some ⟨g, 0, none⟩) m c) n xs) (hp : p.block ≠ g) : (w.setCell p u).ownsRow base 3 1 (.slice (some ⟨g, 0, none⟩) m c) n xs := by
  refine ⟨h.1, ?_⟩
  rcases h.2 with ⟨h, _⟩ | ⟨g', cap, cur, e, hb, hg, h1⟩
  · cases h
  · have e0 := e
    injection e with e1
    injection e1 with e1
    injection e1 with e1
    subst e1
    exact .inr ⟨g, cap, cur, e0, hb, by rw [Below.heap_setCell _ _ _ _ (fun e => hp e.symm)]; exact hg, h1⟩
theorem own_lt {w : World} {B n : Nat} {v : Value} {xs : List Value} (h : w.ownsRow B 3 1 v n xs) : ∀ k, v.ownBlock = some k → B ≤ k ∧ k < w.heap.size := fun k e => by
  rcases h.2 with ⟨rfl, _⟩ | ⟨g, cap, cur, rfl, hb, hg, _⟩
  · simp [Value.ownBlock] at e
  · simp [Value.ownBlock] at e
    subst e
    exact ⟨hb, by rw [Array.getElem?_eq_some_iff] at hg; exact hg.1⟩
theorem new_cell1 (w : World) (d : Int) : ∀ j u, [Value.int .i64 d][j]? = some u → (w.alloc (.cells #[.int .i64 d] 3)).cell? ((⟨w.heap.size, 0, none⟩ : Addr).add j) = some u := new_cell w d
theorem BgI.mono {C T T' R : Nat} {w wr : World} (h : BgI C T w R wr) (hT : T ≤ T') : BgI C T' w R wr := ⟨h.cur.mono hT, h.but, h.res⟩
/-- What a draw hands out: a number's cells in new memory; all else but the cursor stays. -/
def OutDr (C T : Nat) (w : World) (e : Ending) (w' : World) : Prop := ∃ (b : BV) (d : BD), e = .returned (.agg #[.bool b.g, .slice b.a b.n b.c]) ∧ AllOwn w.heap.size w'.heap.size w' [(b, d)] ∧ AllAr w' [(b, d)] ∧ d.xs.length ≤ 42 ∧ Cur C T w' ∧ But C (C + 1) w w'
theorem owns_laterI {w w' : World} {B n : Nat} {v : Value} {M : List Value} (h : w.ownsRow B 3 1 v n M) (hb : Below w.heap.size w w') : w'.ownsRow B 3 1 v n M := by
  refine ⟨h.1, ?_⟩
  rcases h.2 with h | ⟨g, cap, cur, e, hg, h0, h1⟩
  · exact .inl h
  · refine .inr ⟨g, cap, cur, e, hg, ?_, h1⟩
    rw [hb.block g (by rw [Array.getElem?_eq_some_iff] at h0; exact h0.1)]
    exact h0
theorem big_fin {C T : Nat} {w W : World} {g2 : Bool} {a3 : Option Addr} {n3 c3 : Nat} {us : List Int} (h1 : W.ownsRow (w.heap.size + 1) 3 1 (.slice a3 n3 c3) n3 (us.map (Value.int .i64))) (h2 : us.length = n3) (h3 : n3 ≤ 42) (h4 : BgI C T w w.heap.size W) (hC : C < w.heap.size) : OutDr C T w (.returned (.agg #[.bool g2, .slice a3 n3 c3])) ((W.setCell ⟨w.heap.size, 0, none⟩ (.bool g2)).setCell ⟨w.heap.size, 1, none⟩ (.slice a3 n3 c3)) := by
  have k1 := owns_set (p := ⟨w.heap.size, 1, none⟩) (u := .slice a3 n3 c3) (owns_set (p := ⟨w.heap.size, 0, none⟩) (u := .bool g2) h1 (Nat.lt_succ_self _)) (Nat.lt_succ_self _)
  obtain ⟨a, c, e, q1, q2⟩ := owns_shape k1 h2
  injection e with e1 e2 e3
  subst e1 e3
  have hb : Below w.heap.size W ((W.setCell ⟨w.heap.size, 0, none⟩ (.bool g2)).setCell ⟨w.heap.size, 1, none⟩ (.slice a3 n3 c3)) := ((Below.refl _ _).setCell (p := ⟨w.heap.size, 0, none⟩) (Nat.le_refl _) _).setCell (p := ⟨w.heap.size, 1, none⟩) (Nat.le_refl _) _
  have hB : But C (C + 1) w ((W.setCell ⟨w.heap.size, 0, none⟩ (.bool g2)).setCell ⟨w.heap.size, 1, none⟩ (.slice a3 n3 c3)) := ⟨hb.os.trans h4.but.os, hb.tape.trans h4.but.tape, hb.output.trans h4.but.output, Nat.le_trans h4.but.size hb.size, fun k hk hj => (hb.block k hk).trans (h4.but.block k hk hj)⟩
  exact ⟨⟨g2, a3, n3, c3⟩, ⟨g2, us⟩, rfl, AllOwn.one ⟨rfl, ((q1.mono (Nat.le_succ _)).two), h2⟩, AllAr.cons ⟨rfl, q2⟩ (AllAr.nil _), by show us.length ≤ 42; omega, h4.cur.below hb hC, hB⟩
set_option maxHeartbeats 8000000 in
theorem big_v (C T : Nat) (w : World) (h : Cur C T w) (hT : T ≤ 990000) :
    Calls Try.prog 65 #[.pointer (some ⟨C, 0, none⟩)] w (OutDr C (T + 300) w) := by
  obtain ⟨i0, hi, hz0, hz1, hz2⟩ := info_parts Try.info3
  have hCw := h.lt
  have HC := hide h
  clear h
  have B0 : Hid (BgI C T w w.heap.size (w.alloc (.cells #[.bool false, .slice none 0 0] 25))) := hide ⟨(unhide HC).later ((Below.refl _ _).alloc (Nat.le_refl _) _), al_but _, Zb.new⟩
  go_enter Try.func65, Try.ntmps65
  go_wp2_with fail
  refine (pick_v C T 6 _ (unhide B0).cur (by omega) (by omega)).mono ?_
  rintro e w1 ⟨n0, rfl, n00, n01, n02, c1, b1⟩
  replace n01 := n01 (by omega)
  have B1 := hide ((unhide B0).step c1 b1 hCw)
  clear c1 b1 B0
  go_wp2_with fail
  refine (one_v C (T + 2) 12 _ (unhide B1).cur (by omega) (by omega)).mono ?_
  rintro e w2 ⟨o1, rfl, c1, b1⟩
  have B2 := hide ((unhide B1).step c1 b1 hCw)
  clear c1 b1 B1
  go_upto_if 9 with fail
  go_cut [3] (fun v w5 => ∃ k : Nat, v = .int .i64 k ∧ k ≤ 41 ∧ Hid (BgI C (T + 6) w w.heap.size w5))
  case first =>
    cases o1
    · go_wp2_with fail
      go_meet
      exact ⟨n0.toNat, by congr 1; omega, by omega, hide ((unhide B2).mono (by omega))⟩
    · have ML := (unhide B2).cur.lt
      go_wp2_with fail
      refine (among_v C (T + 4) w2.heap.size 0 4 4 [20, 39, 40, 41] _ ((unhide B2).al _).cur (by omega) (by omega) (by omega) rfl (by omega) (by simp) (cells4 _ _ _ _ _)).mono ?_
      rintro e w3 ⟨x, rfl, hx, c1, b1⟩
      have B3 := hide (((unhide B2).al _).step c1 b1 hCw)
      clear c1 b1 B2
      have hx2 : 0 ≤ x ∧ x ≤ 41 := by simp at hx; omega
      go_wp2_with fail
      go_meet
      exact ⟨x.toNat, by congr 1; omega, by omega, B3⟩
  case rest =>
    obtain ⟨k0, rfl, hk0, B3⟩ := hcut
    go_wp2
    go_loopw [3, 4] (fun v l wr => ∃ (k : Nat) (zs : List Int), v = .int .i64 k ∧ k + zs.length ≤ 41 ∧ Hid (wr.ownsRow (w.heap.size + 1) 3 1 l zs.length (zs.map (Value.int .i64))) ∧ Hid (BgI C (T + 6 + 6 * zs.length) w w.heap.size wr)) (fun v _ _ => (intOf v).toNat)
    case atStart => exact ⟨k0, [], rfl, by simpa using hk0, hide ⟨rfl, .inl ⟨rfl, rfl⟩⟩, B3⟩
    case round =>
      obtain ⟨k, zs, rfl, hk, HO, HI⟩ := hrel
      have szr : w.heap.size < wr.heap.size := World.block_lt_of_cell? _ _ (unhide HI).res.c0
      cases k with
      | zero =>
        have d0 : decide ((0 : Int) < ((0 : Nat) : Int)) = false := by simp
        go_wp2_with fail
        refine (one_v C _ 3 _ (unhide HI).cur (by omega) (by omega)).mono ?_
        rintro e w4 ⟨g, rfl, c1, b1⟩
        have I4 := hide ((unhide HI).step c1 b1 hCw)
        have O4 := hide (owns_keep (unhide HO) b1 (by omega))
        have s4 := b1.size
        clear c1 b1 HI HO
        obtain ⟨a1, c1, rfl, q1, q2⟩ := owns_shape (unhide O4) rfl
        have A4 := hide q2
        clear q1 q2 O4
        go_wp2_with fail
        refine (makeR_any g a1 zs.length c1 zs _ (unhide A4) (by omega)).mono ?_
        rintro e w5 ⟨a2, n2, c2, rfl, hb, ho, hn⟩
        have I5 := hide ((unhide I4).later hb)
        have s5 := hb.size
        have tl := trim_len zs
        clear hb I4
        generalize sgn g (trim zs) = g2 at *
        generalize trim zs = ts at *
        have O5 := hide ho
        have LT := hide hn
        have GB := hide (own_lt ho)
        clear ho
        have al : Below w5.heap.size w5 (w5.alloc (.cells #[.bool g2, .slice a2 n2 c2] 25)) := (Below.refl _ _).alloc (Nat.le_refl _) _
        have k0 : (w5.alloc (.cells #[.bool g2, .slice a2 n2 c2] 25)).cell? ⟨w5.heap.size, 0, none⟩ = some (.bool g2) := by simp [go_sem]
        have k1 : (w5.alloc (.cells #[.bool g2, .slice a2 n2 c2] 25)).cell? ⟨w5.heap.size, 1, none⟩ = some (.slice a2 n2 c2) := by simp [go_sem]
        have kf : ∀ o, (w5.alloc (.cells #[.bool g2, .slice a2 n2 c2] 25)).frozen? ⟨w5.heap.size, o, none⟩ = false := fun o => by simp [go_sem]
        have I6 := hide ((unhide I5).later al)
        have O6 := hide (owns_laterI (unhide O5) al)
        clear al I5 O5
        go_wp2_with fail
        refine (one_v C _ 40 _ (unhide I6).cur (by omega) (by omega)).mono ?_
        rintro e w6 ⟨o2, rfl, c3, b1⟩
        have CA : C < w5.heap.size := by omega
        replace k0 := b1.cell k0 (.inr (by omega))
        replace k1 := b1.cell k1 (.inr (by omega))
        replace kf := fun o => b1.fz (kf o) (by simp) (.inr (show C + 1 ≤ w5.heap.size by omega))
        have I7 := hide ((unhide I6).step c3 b1 hCw)
        have O7 := hide (owns_keep (unhide O6) b1 (by omega))
        have s6 := b1.size
        simp at s6
        clear c3 b1 I6 O6
        have r0 := (unhide I7).res.c0
        have r1 := (unhide I7).res.c1
        have rf := (unhide I7).res.fz
        have FIN : Hid (∀ (W : World) (a3 : Option Addr) (n3 c3 : Nat) (us : List Int), W.ownsRow (w.heap.size + 1) 3 1 (.slice a3 n3 c3) n3 (us.map (Value.int .i64)) → us.length = n3 → n3 ≤ 42 → BgI C (T + 300) w w.heap.size W → OutDr C (T + 300) w (.returned (.agg #[.bool g2, .slice a3 n3 c3])) ((W.setCell ⟨w.heap.size, 0, none⟩ (.bool g2)).setCell ⟨w.heap.size, 1, none⟩ (.slice a3 n3 c3))) := hide (fun W a3 n3 c3 us h1 h2 h3 h4 => big_fin h1 h2 h3 h4 hCw)
        cases o2
        · go_wp2_with fail
          refine bodyPost_ret (v := .agg #[.bool g2, .slice a2 n2 c2]) (by simp [results, Try.results65, go_sem, r0, r1]) rfl ?_
          exact unhide FIN _ _ _ _ ts (owns_wide (unhide O7) (by omega)) (unhide LT) (by have := unhide LT; omega) ((unhide I7).mono (by omega))
        · have k1d : w6.drew.cell? ⟨w5.heap.size, 1, none⟩ = some (.slice a2 n2 c2) := k1
          have k1a : (w6.drew.alloc (.cells #[.int .i64 0, .int .i64 (-1), .int .i64 65536] 3)).cell? ⟨w5.heap.size, 1, none⟩ = some (.slice a2 n2 c2) := cell_later ((Below.refl _ _).alloc (Nat.le_refl _) _) k1d
          have k1b : (w6.alloc (.cells #[.int .i64 0, .int .i64 (-1), .int .i64 65536] 3)).cell? ⟨w5.heap.size, 1, none⟩ = some (.slice a2 n2 c2) := k1a
          have hsd : w6.drew.heap.size = w6.heap.size := rfl
          go_upto_region 10 with fail
          go_region_law
            (first
            | (go_simp; go_at_call 113; refine (among_v C _ w6.heap.size 0 3 3 [0, -1, 65536] _ ((unhide I7).dr.al _).cur (by omega) (by omega) (by omega) rfl (by omega) (by simp) (cells3 w6.drew _ _ _)).mono ?_; rintro e w8 ⟨z, rfl, hz, c3, b1⟩; have I8 := hide (((unhide I7).dr.al _).step c3 b1 hCw); have O8 := hide (owns_keep (owns_keep (C := C) (owns_keep (C := C) (unhide O7) (But.of_below (Below.refl _ _).drew) (by omega)) (al_but _) (by omega)) b1 (by omega)); have k1w := b1.cell k1a (.inr (by omega)); have k0w := b1.cell (cell_later ((Below.refl _ _).alloc (Nat.le_refl _) (.cells #[.int .i64 0, .int .i64 (-1), .int .i64 65536] 3)) (show w6.drew.cell? ⟨w5.heap.size, 0, none⟩ = some (.bool g2) from k0)) (.inr (by omega)); have kfw := fun o => b1.fz (frozen_later ((Below.refl _ _).alloc (Nat.le_refl _) (.cells #[.int .i64 0, .int .i64 (-1), .int .i64 65536] 3)) (show w5.heap.size < w6.drew.heap.size by omega) (show w6.drew.frozen? ⟨w5.heap.size, o, none⟩ = false from kf o)) (by simp; omega) (.inr (show C + 1 ≤ w5.heap.size by omega)); have s8 := b1.size; simp at s8; have k1x : (w8.alloc (.cells #[.int .i64 z] 3)).cell? ⟨w5.heap.size, 1, none⟩ = some (.slice a2 n2 c2) := cell_later ((Below.refl _ _).alloc (Nat.le_refl _) _) k1w; clear c3 b1)
            | (refine step_append_lies _ rfl (.tmp 36) (.tmp 40) 23 rfl w4.heap.size 3 i0 (.int .i64 0) 1 8 Try.underlying23 hi hz0 hz1 hz2 rfl (by decide) _ n2 (ts.map (Value.int .i64)) rfl (owns_keep (C := C) (unhide O8) (al_but _) (by omega)) ⟨w8.heap.size, 0, none⟩ 1 1 [.int .i64 z] rfl rfl (new_cell1 _ _) (fun u hu => by simp at hu; subst hu; rfl) (by omega) (by have := unhide LT; unfold maxLen; omega) (by have := unhide LT; omega) (by simp; omega) _ rfl ?_; intro gg cap w9 hown hgrow hor hlt; have hbk := hgrow.block w5.heap.size (by simp; omega) (fun e => by have := unhide GB _ e.symm; omega); have k19 : w9.cell? ⟨w5.heap.size, 1, none⟩ = some (.slice a2 n2 c2) := (World.cell?_of_block (a := ⟨w5.heap.size, 1, none⟩) hbk).trans k1x; have k09 : w9.cell? ⟨w5.heap.size, 0, none⟩ = some (.bool g2) := (World.cell?_of_block (a := ⟨w5.heap.size, 0, none⟩) hbk).trans (cell_later ((Below.refl _ _).alloc (Nat.le_refl _) _) k0w); have kf9 : ∀ o, w9.frozen? ⟨w5.heap.size, o, none⟩ = false := fun o => (World.frozen?_of_block (a := ⟨w5.heap.size, o, none⟩) hbk).trans (frozen_later ((Below.refl _ _).alloc (Nat.le_refl _) _) (show w5.heap.size < w8.heap.size by omega) (kfw o)); have I9 := hide (((unhide I8).al (.cells #[.int .i64 z] 3)).below (own_below (owns_keep (C := C) (unhide O8) (al_but _) (by omega)) hgrow (by simp; omega)) (by omega) (by omega) (by omega)); have O9 := hide hown; have gA : w5.heap.size ≠ gg := (by rcases hor with h | h; have := unhide GB _ h; omega; simp at h; omega); have s9 := hgrow.size; simp at s9; clear hown hgrow hor hlt hbk k1x k1w k0w kfw)
            | fail)
          all_goals clear r0 r1 rf k0 k1 kf k1d k1a k1b
          all_goals
            have I10 := hide ((unhide I9).below (show Below (w.heap.size + 1) w9 (w9.setCell ⟨w5.heap.size, 1, none⟩ (.slice (some ⟨gg, 0, none⟩) (n2 + 1) cap)) from (Below.refl _ _).setCell (p := ⟨w5.heap.size, 1, none⟩) (show w.heap.size + 1 ≤ w5.heap.size by omega) _) (by omega) (by omega) (by omega))
            have O10 := hide (owns_set_ne (p := ⟨w5.heap.size, 1, none⟩) (u := .slice (some ⟨gg, 0, none⟩) (n2 + 1) cap) (unhide O9) gA)
            have r0 := (unhide I10).res.c0
            have r1 := (unhide I10).res.c1
            have rf := (unhide I10).res.fz
            have q0 : (w9.setCell ⟨w5.heap.size, 1, none⟩ (.slice (some ⟨gg, 0, none⟩) (n2 + 1) cap)).cell? ⟨w5.heap.size, 0, none⟩ = some (.bool g2) := by simp [go_sem, k09, k19]
            have q1 : (w9.setCell ⟨w5.heap.size, 1, none⟩ (.slice (some ⟨gg, 0, none⟩) (n2 + 1) cap)).cell? ⟨w5.heap.size, 1, none⟩ = some (.slice (some ⟨gg, 0, none⟩) (n2 + 1) cap) := by simp [go_sem, k09, k19]
            clear k09 k19 kf9 I9 O9
            generalize (w9.setCell ⟨w5.heap.size, 1, none⟩ (.slice (some ⟨gg, 0, none⟩) (n2 + 1) cap)) = wx at *
            go_wp2_with fail
            refine bodyPost_ret (v := .agg #[.bool g2, .slice (some ⟨gg, 0, none⟩) (n2 + 1) cap]) (by simp [results, Try.results65, go_sem, r0, r1]) rfl ?_
            exact unhide FIN _ _ _ _ (ts ++ [z]) (by rw [List.map_append]; exact owns_wide (unhide O10) (by omega)) (by simp; exact unhide LT) (by have := unhide LT; omega) ((unhide I10).mono (by omega))
      | succ k =>
        have d0 : decide ((0 : Int) < ((k + 1 : Nat) : Int)) = true := by rw [decide_eq_true_eq]; omega
        have kw : IntKind.i64.wrap (((k + 1 : Nat) : Int) - 1) = (k : Int) := by rw [IntKind.wrap_i64]; omega
        go_wp2_with fail
        refine (pick_v C _ 256 _ (unhide HI).cur (by omega) (by omega)).mono ?_
        rintro e w4 ⟨x, rfl, x0, x1, x2, c1, b1⟩
        replace x1 := x1 (by omega)
        have xw : IntKind.i64.wrap (256 * x) = 256 * x := by rw [IntKind.wrap_i64]; omega
        have I4 := hide ((unhide HI).step c1 b1 hCw)
        have O4 := hide (owns_keep (unhide HO) b1 (by omega))
        have s4 := b1.size
        clear c1 b1 HI HO
        go_wp2_with fail
        refine (pick_v C _ 256 _ (unhide I4).cur (by omega) (by omega)).mono ?_
        rintro e w5 ⟨y, rfl, y0, y1, y2, c1, b1⟩
        replace y1 := y1 (by omega)
        have yw : IntKind.i64.wrap (256 * x + y) = 256 * x + y := by rw [IntKind.wrap_i64]; omega
        have I5 := hide ((unhide I4).step c1 b1 hCw)
        have O5 := hide (owns_keep (unhide O4) b1 (by omega))
        have s5 := b1.size
        clear c1 b1 I4 O4
        go_wp2_with fail
        refine (among_v C _ w5.heap.size 0 6 6 [0, 1, 65535, 32768, 256 * x + y, 7] _ ((unhide I5).al _).cur (by omega) (by omega) (by omega) rfl (by omega) (by simp) (cells6 _ _ _ _ _ _ _)).mono ?_
        rintro e w6 ⟨z, rfl, hz, c1, b1⟩
        have I6 := hide (((unhide I5).al _).step c1 b1 hCw)
        have O6 := hide (owns_keep (owns_keep (C := C) (unhide O5) (al_but _) (by omega)) b1 (by omega))
        have s6 := b1.size
        simp at s6
        clear c1 b1 I5 O5
        go_wp2_with (at_builtin; refine wpList_append_own _ rfl (.tmp 17) (.tmp 27) 23 rfl (w.heap.size + 1) 3 i0 (.int .i64 0) 1 8 Try.underlying23 hi hz0 hz1 hz2 rfl (by decide) _ _ _ rfl ((unhide O6).alloc _) ⟨_, 0, none⟩ 1 1 [.int .i64 z] rfl rfl (new_cell _ _) (fun u hu => by simp at hu; subst hu; rfl) (by unfold maxLen; omega) (by omega) (by simp; omega) ?_)
        intro v' w7 hown hg _
        have O7 := hide (push_owns (w := w) (v := v') hown)
        have I7 := hide (((unhide I6).al (.cells #[.int .i64 z] 3)).below (own_below ((unhide O6).alloc _) hg (by simp; omega)) (by omega) (by omega) (by omega))
        clear hown hg
        go_wp2
        go_roundw
        case rel => exact ⟨k, zs ++ [z], rfl, by simp; omega, by simpa using O7, by simp; exact hide ((unhide I7).mono (by omega))⟩
        case measure => simp [intOf]
end Go.Proofs.Ytagnhgefdcckoaa
namespace Go.Proofs.Ytagnhgefdcckoaa
open Go.RowKit
set_option linter.unusedVariables false
set_option maxRecDepth 100000
set_option linter.unusedSimpArgs false

/-- A slice of bytes as an argument. -/
structure ArY (w : World) (a : Option Addr) (n : Nat) : Prop where
  sb : Sb w w.heap.size a n
  top : n ≤ 9223372036854775807
theorem ArY.later {w w' : World} {a : Option Addr} {n : Nat} (h : ArY w a n) (hb : Below w.heap.size w w') : ArY w' a n := by
  refine ⟨?_, h.top⟩
  rcases h.sb with h | ⟨b, off, ea, hl, hc⟩
  · exact .inl h
  · refine .inr ⟨b, off, ea, Nat.lt_of_lt_of_le hl hb.size, fun i hi => ?_⟩
    obtain ⟨x, x0, x1, e⟩ := hc i hi
    exact ⟨x, x0, x1, cell_later hb e⟩
theorem Cur.new {w : World} {a : Option Addr} {n c : Nat} {t : TypeId} (h : ArY w a n) : Cur w.heap.size 0 (w.alloc (.cells #[.slice a n c, .int .i64 0, .int .u64 0] t)) := by
  refine ⟨⟨a, n, c, by simp [go_sem], h.top, ?_⟩, ⟨0, Int.le_refl _, Int.le_refl _, by simp [go_sem]⟩, ⟨0, by simp [go_sem]⟩, fun o => by simp [go_sem]⟩
  rcases h.sb with h | ⟨b, off, ea, hl, hc⟩
  · exact .inl h
  · refine .inr ⟨b, off, ea, hl, fun i hi => ?_⟩
    obtain ⟨x, x0, x1, e⟩ := hc i hi
    exact ⟨x, x0, x1, cell_later ((Below.refl _ _).alloc (Nat.le_refl _) _) e⟩
theorem ar_keep {w w' : World} {C lo hi : Nat} {l : List (BV × BD)} (h : AllOwn lo hi w l) (k : AllAr w l) (hb : But C (C + 1) w w') (hC : C < lo) : AllAr w' l := fun p hp =>
  ⟨(k p hp).sg, ⟨((h.but hb (.inr (by omega))).sl p hp).sl, (k p hp).ar.len, (k p hp).ar.cap, (k p hp).ar.top, (k p hp).ar.addr⟩⟩
/-- Two numbers' cells; all that was there stays. -/
def OutDD (w : World) (e : Ending) (w' : World) : Prop := ∃ (b1 b2 : BV) (d1 d2 : BD), e = .returned (.tuple #[.agg #[.bool b1.g, .slice b1.a b1.n b1.c], .agg #[.bool b2.g, .slice b2.a b2.n b2.c]]) ∧ AllAr w' [(b1, d1)] ∧ AllAr w' [(b2, d2)] ∧ AllOwn w.heap.size w'.heap.size w' [(b1, d1)] ∧ AllOwn w.heap.size w'.heap.size w' [(b2, d2)] ∧ d1.xs.length ≤ 42 ∧ d2.xs.length ≤ 42 ∧ Below w.heap.size w w'
theorem ar_keep2 {w w' : World} {lo hi lo' hi' : Nat} {l : List (BV × BD)} (h : AllOwn lo hi w l) (k : AllAr w l) (hb : But lo' hi' w w') (hd : hi' ≤ lo) : AllAr w' l := fun p hp =>
  ⟨(k p hp).sg, ⟨((h.but hb (.inr hd)).sl p hp).sl, (k p hp).ar.len, (k p hp).ar.cap, (k p hp).ar.top, (k p hp).ar.addr⟩⟩
theorem dd_fin {w W W' : World} {b1 b2 : BV} {d1 d2 : BD} {h1 h2 : Nat} (hb : But w.heap.size (w.heap.size + 2) W W') (bw : Below w.heap.size w W) (o1 : AllOwn (w.heap.size + 2) h1 W [(b1, d1)]) (a1 : AllAr W [(b1, d1)]) (o2 : AllOwn (w.heap.size + 2) h2 W [(b2, d2)]) (q1 : h1 ≤ W.heap.size) (q2 : h2 ≤ W.heap.size) (a2 : AllAr W [(b2, d2)]) (l1 : d1.xs.length ≤ 42) (l2 : d2.xs.length ≤ 42) :
    OutDD w (.returned (.tuple #[.agg #[.bool b1.g, .slice b1.a b1.n b1.c], .agg #[.bool b2.g, .slice b2.a b2.n b2.c]])) W' :=
  ⟨b1, b2, d1, d2, rfl, ar_keep2 o1 a1 hb (by omega), ar_keep2 o2 a2 hb (by omega), (o1.but hb (.inr (by omega))).wide (by omega) (Nat.le_trans q1 hb.size), (o2.but hb (.inr (by omega))).wide (by omega) (Nat.le_trans q2 hb.size), l1, l2, hb.below bw (Nat.le_refl _) bw.size⟩
theorem two_set {W : World} {R : Nat} {x0 x1 x2 x3 : Value} : But R (R + 2) W ((((W.setCell ⟨R, 0, none⟩ x0).setCell ⟨R, 1, none⟩ x1).setCell ⟨R + 1, 0, none⟩ x2).setCell ⟨R + 1, 1, none⟩ x3) :=
  ((((But.refl _ _ W).set (p := ⟨R, 0, none⟩) (Nat.le_refl _) (by show R < _; omega) _).set (p := ⟨R, 1, none⟩) (Nat.le_refl _) (by show R < _; omega) _).set (p := ⟨R + 1, 0, none⟩) (by show R ≤ R + 1; omega) (by show R + 1 < _; omega) _).set (p := ⟨R + 1, 1, none⟩) (by show R ≤ R + 1; omega) (by show R + 1 < _; omega) _
set_option maxHeartbeats 8000000 in
theorem drawCmp (a : Option Addr) (n c : Nat) (w : World) (h : ArY w a n) :
    Calls Try.prog 44 #[.slice a n c] w (OutDD w) := by
  have H := hide h
  clear h
  go_enter Try.func44, Try.ntmps44
  go_wp2_with fail
  have e0 : ((w.alloc (.cells #[.bool false, .slice none 0 0] 25)).alloc (.cells #[.bool false, .slice none 0 0] 25)).heap.size = w.heap.size + 2 := by simp
  have al : Below w.heap.size w ((w.alloc (.cells #[.bool false, .slice none 0 0] 25)).alloc (.cells #[.bool false, .slice none 0 0] 25)) := ((Below.refl _ _).alloc (Nat.le_refl _) _).alloc (by simp) _
  have CU : Hid (Cur (w.heap.size + 2) 0 (((w.alloc (.cells #[.bool false, .slice none 0 0] 25)).alloc (.cells #[.bool false, .slice none 0 0] 25)).alloc (.cells #[.slice a n c, .int .i64 0, .int .u64 0] 80))) := hide (e0 ▸ Cur.new (w := ((w.alloc (.cells #[.bool false, .slice none 0 0] 25)).alloc (.cells #[.bool false, .slice none 0 0] 25))) (c := c) (t := 80) ((unhide H).later al))
  have al3 : Below ((w.alloc (.cells #[.bool false, .slice none 0 0] 25)).alloc (.cells #[.bool false, .slice none 0 0] 25)).heap.size ((w.alloc (.cells #[.bool false, .slice none 0 0] 25)).alloc (.cells #[.bool false, .slice none 0 0] 25)) (((w.alloc (.cells #[.bool false, .slice none 0 0] 25)).alloc (.cells #[.bool false, .slice none 0 0] 25)).alloc (.cells #[.slice a n c, .int .i64 0, .int .u64 0] 80)) := (Below.refl _ _).alloc (Nat.le_refl _) _
  have Z1 : Hid (Zb (((w.alloc (.cells #[.bool false, .slice none 0 0] 25)).alloc (.cells #[.bool false, .slice none 0 0] 25)).alloc (.cells #[.slice a n c, .int .i64 0, .int .u64 0] 80)) w.heap.size) := hide ((Zb.new.later ((Below.refl _ _).alloc (Nat.le_refl _) _)).later al3)
  have Z2 : Hid (Zb (((w.alloc (.cells #[.bool false, .slice none 0 0] 25)).alloc (.cells #[.bool false, .slice none 0 0] 25)).alloc (.cells #[.slice a n c, .int .i64 0, .int .u64 0] 80)) (w.heap.size + 1)) := hide ((by have k := Zb.new (w := (w.alloc (.cells #[.bool false, .slice none 0 0] 25))) (t := 25); simpa using k : Zb ((w.alloc (.cells #[.bool false, .slice none 0 0] 25)).alloc (.cells #[.bool false, .slice none 0 0] 25)) (w.heap.size + 1)).later al3)
  have BW : Hid (Below w.heap.size w (((w.alloc (.cells #[.bool false, .slice none 0 0] 25)).alloc (.cells #[.bool false, .slice none 0 0] 25)).alloc (.cells #[.slice a n c, .int .i64 0, .int .u64 0] 80))) := hide (al.trans (al3.mono (by omega)))
  have sz3 : (((w.alloc (.cells #[.bool false, .slice none 0 0] 25)).alloc (.cells #[.bool false, .slice none 0 0] 25)).alloc (.cells #[.slice a n c, .int .i64 0, .int .u64 0] 80)).heap.size = w.heap.size + 3 := by simp
  clear al al3 e0
  refine (big_v (w.heap.size + 2) 0 _ (unhide CU) (by omega)).mono ?_
  rintro e w1 ⟨b1, d1, rfl, o1, a1, l1, c1, bt⟩
  rw [sz3] at o1
  have CU1 := hide c1
  have ZZ1 := hide ((unhide Z1).keep bt (.inl (by omega)))
  have ZZ2 := hide ((unhide Z2).keep bt (.inl (by omega)))
  have BW1 : Hid (Below w.heap.size w w1) := hide (bt.below (unhide BW) (by omega) (by omega))
  have s1 : w.heap.size + 3 ≤ w1.heap.size := by have := bt.size; omega
  have O1 := hide o1
  have A1 := hide a1
  clear bt c1 o1 a1 CU Z1 Z2 BW sz3
  have al : Below w1.heap.size w1 (w1.alloc (.cells #[.bool b1.g, .slice b1.a b1.n b1.c] 25)) := (Below.refl _ _).alloc (Nat.le_refl _) _
  replace CU1 := hide ((unhide CU1).later al)
  replace ZZ1 := hide ((unhide ZZ1).later al)
  replace ZZ2 := hide ((unhide ZZ2).later al)
  replace BW1 := hide ((unhide BW1).trans (al.mono (by omega)))
  replace O1 := hide ((unhide O1).later al)
  replace A1 := hide ((unhide A1).later al)
  have k0 : (w1.alloc (.cells #[.bool b1.g, .slice b1.a b1.n b1.c] 25)).cell? ⟨w1.heap.size, 0, none⟩ = some (.bool b1.g) := by simp [go_sem]
  have k1 : (w1.alloc (.cells #[.bool b1.g, .slice b1.a b1.n b1.c] 25)).cell? ⟨w1.heap.size, 1, none⟩ = some (.slice b1.a b1.n b1.c) := by simp [go_sem]
  have sz2 : (w1.alloc (.cells #[.bool b1.g, .slice b1.a b1.n b1.c] 25)).heap.size = w1.heap.size + 1 := by simp
  clear al
  go_wp2_with fail
  refine (one_v (w.heap.size + 2) 300 4 _ (unhide CU1) (by omega) (by omega)).mono ?_
  rintro e w2 ⟨o2, rfl, c1, bt⟩
  replace CU1 := hide c1
  replace ZZ1 := hide ((unhide ZZ1).keep bt (.inl (by omega)))
  replace ZZ2 := hide ((unhide ZZ2).keep bt (.inl (by omega)))
  replace A1 := hide (ar_keep (unhide O1) (unhide A1) bt (by omega))
  replace O1 := hide ((unhide O1).but bt (.inr (by omega)))
  replace BW1 := hide (bt.below (unhide BW1) (by omega) (by omega))
  replace k0 := bt.cell k0 (.inr (by omega))
  replace k1 := bt.cell k1 (.inr (by omega))
  have s2 : w1.heap.size + 1 ≤ w2.heap.size := by have := bt.size; omega
  clear c1 bt sz2
  have r0 := (unhide ZZ1).c0
  have r1 := (unhide ZZ1).c1
  have rf := (unhide ZZ1).fz
  have t0 := (unhide ZZ2).c0
  have t1 := (unhide ZZ2).c1
  have tf := (unhide ZZ2).fz
  cases o2
  · have kd0 : w2.drew.cell? ⟨w1.heap.size, 0, none⟩ = some (.bool b1.g) := k0
    have kd1 : w2.drew.cell? ⟨w1.heap.size, 1, none⟩ = some (.slice b1.a b1.n b1.c) := k1
    go_upto_region 5 with fail
    go_region_with
      (first
      | (go_at_call 65; refine (big_v (w.heap.size + 2) 302 _ ((unhide CU1).later (Below.refl _ _).drew) (by omega)).mono ?_; rintro e w3 ⟨b2, d2, rfl, o2, a2, l2, c1, bt⟩; replace bt := (But.of_below (Below.refl w2.heap.size w2).drew).trans bt; have sd : w2.drew.heap.size = w2.heap.size := rfl; rw [sd] at o2; have ZY1 := hide ((unhide ZZ1).keep bt (.inl (by omega))); have ZY2 := hide ((unhide ZZ2).keep bt (.inl (by omega))); have A3 := hide (ar_keep (unhide O1) (unhide A1) bt (by omega)); have O3 := hide ((unhide O1).but bt (.inr (by omega))); have BW3 := hide (bt.below (unhide BW1) (by omega) (by omega)); have kk0 := bt.cell k0 (.inr (by omega)); have kk1 := bt.cell k1 (.inr (by omega)); have A4 := hide a2; have O4 := hide (o2.wide (show w.heap.size + 3 ≤ w2.heap.size by omega) (Nat.le_refl _)); have rr0 := (unhide ZY1).c0; have rr1 := (unhide ZY1).c1; have rrf := (unhide ZY1).fz; have tt0 := (unhide ZY2).c0; have tt1 := (unhide ZY2).c1; have ttf := (unhide ZY2).fz; have s3 := bt.size; clear bt c1 a2 o2 sd)
      | fail)
    all_goals go_wp2_with fail
    all_goals
      refine bodyPost_ret (v := .tuple #[.agg #[.bool b1.g, .slice b1.a b1.n b1.c], .agg #[.bool b2.g, .slice b2.a b2.n b2.c]]) (by simp [results, Try.results44, go_sem, rr0, rr1, tt0, tt1]) rfl ?_
      exact dd_fin two_set (unhide BW3) ((unhide O3).wide (by omega) (show w1.heap.size ≤ w3.heap.size by omega)) (unhide A3) ((unhide O4).wide (by omega) (Nat.le_refl _)) (Nat.le_refl _) (Nat.le_refl _) (unhide A4) l1 l2
  · go_upto_region 4 with fail
    go_region
    go_wp2_with fail
    refine bodyPost_ret (v := .tuple #[.agg #[.bool b1.g, .slice b1.a b1.n b1.c], .agg #[.bool b1.g, .slice b1.a b1.n b1.c]]) (by simp [results, Try.results44, go_sem, r0, r1, t0, t1]) rfl ?_
    exact dd_fin (two_set.trans (But.of_below (Below.refl _ _).drew)) (unhide BW1) ((unhide O1).wide (by omega) (show w1.heap.size ≤ w2.heap.size by omega)) (unhide A1) ((unhide O1).wide (by omega) (show w1.heap.size ≤ w2.heap.size by omega)) (Nat.le_refl _) (Nat.le_refl _) (unhide A1) l1 l1
set_option maxHeartbeats 4000000 in
theorem drawMul (a : Option Addr) (n c : Nat) (w : World) (h : ArY w a n) :
    Calls Try.prog 7 #[.slice a n c] w (OutDD w) := by
  have H := hide h
  clear h
  go_enter Try.func7, Try.ntmps7
  go_wp2_with fail
  have al : Below w.heap.size w ((w.alloc (.cells #[.bool false, .slice none 0 0] 25)).alloc (.cells #[.bool false, .slice none 0 0] 25)) := ((Below.refl _ _).alloc (Nat.le_refl _) _).alloc (by simp) _
  have Z1 : Zb ((w.alloc (.cells #[.bool false, .slice none 0 0] 25)).alloc (.cells #[.bool false, .slice none 0 0] 25)) w.heap.size := Zb.new.later ((Below.refl _ _).alloc (Nat.le_refl _) _)
  have Z2 : Zb ((w.alloc (.cells #[.bool false, .slice none 0 0] 25)).alloc (.cells #[.bool false, .slice none 0 0] 25)) (w.heap.size + 1) := by have k := Zb.new (w := (w.alloc (.cells #[.bool false, .slice none 0 0] 25))) (t := 25); simpa using k
  refine (drawCmp a n c _ ((unhide H).later al)).mono ?_
  rintro e w1 ⟨b1, b2, d1, d2, rfl, a1, a2, o1, o2, l1, l2, hb⟩
  have ZZ1 := Z1.later hb
  have ZZ2 := Z2.later hb
  have r0 := ZZ1.c0
  have r1 := ZZ1.c1
  have rf := ZZ1.fz
  have t0 := ZZ2.c0
  have t1 := ZZ2.c1
  have tf := ZZ2.fz
  have A1 := hide a1
  have A2 := hide a2
  have e0 : ((w.alloc (.cells #[.bool false, .slice none 0 0] 25)).alloc (.cells #[.bool false, .slice none 0 0] 25)).heap.size = w.heap.size + 2 := by simp
  rw [e0] at o1 o2
  have O1 := hide o1
  have O2 := hide o2
  have BW := hide (al.trans (hb.mono (by omega)))
  clear a1 a2 hb Z1 Z2 al e0 o1 o2
  go_wp2_with fail
  refine bodyPost_ret (v := .tuple #[.agg #[.bool b1.g, .slice b1.a b1.n b1.c], .agg #[.bool b2.g, .slice b2.a b2.n b2.c]]) (by simp [results, Try.results7, go_sem, r0, r1, t0, t1]) rfl ?_
  exact dd_fin two_set (unhide BW) (unhide O1) (unhide A1) (unhide O2) (Nat.le_refl _) (Nat.le_refl _) (unhide A2) l1 l2
theorem Nm.len4 {zs : List Int} {V : Int} (h : Nm zs V) (hV : V ≤ 9223372036854775808) : zs.length ≤ 4 :=
  h.le (W := [65535, 65535, 65535, 65535]) (by intro x hx; simp at hx; omega) rfl (by simp [val]; omega)
theorem wrap64_in (n : Int) : -9223372036854775808 ≤ wrap64 n ∧ wrap64 n ≤ 9223372036854775807 := by
  unfold wrap64
  omega
theorem cells11 (w : World) (l : List Int) (h : l.length = 11) (cs : Array Value) (hc : cs = (l.map (Value.int .i64)).toArray) : ∀ i, i < 11 → (w.alloc (.cells cs 3)).cell? ⟨w.heap.size, 0 + i, none⟩ = some (.int .i64 (l.getD i 0)) := by
  intro i hi
  subst hc
  rw [Nat.zero_add, List.getD_eq_getElem?_getD, List.getElem?_eq_getElem (by omega)]
  simp [go_sem, h, hi]
set_option maxHeartbeats 4000000 in
theorem anyInt_v (C T : Nat) (w : World) (h : Cur C T w) (hT : T ≤ 990000) :
    Calls Try.prog 64 #[.pointer (some ⟨C, 0, none⟩)] w fun e w' => ∃ x : Int, e = .returned (.int .i64 x) ∧ -9223372036854775808 ≤ x ∧ x ≤ 9223372036854775807 ∧ Cur C (T + 6) w' ∧ But C (C + 1) w w' := by
  have hCw := h.lt
  have HC := hide h
  clear h
  go_enter Try.func64, Try.ntmps64
  go_wp2_with fail
  refine (one_v C T 2 _ (unhide HC) (by omega) (by omega)).mono ?_
  rintro e w1 ⟨o1, rfl, c1, b1⟩
  have H1 := hide c1
  have HB := hide b1
  have s1 := b1.size
  clear c1 b1 HC
  cases o1
  · go_wp2_with fail
    refine (pick_v C _ 256 _ (unhide H1) (by omega) (by omega)).mono ?_
    rintro e w2 ⟨x, rfl, x0, x1, x2, c1, b1⟩
    replace x1 := x1 (by omega)
    have xw : IntKind.i64.wrap (x - 128) = x - 128 := by rw [IntKind.wrap_i64]; omega
    have H2 := hide c1
    replace HB := hide ((unhide HB).trans b1)
    clear c1 b1 H1
    go_wp2_with fail
    refine (pick_v C _ 50 _ (unhide H2) (by omega) (by omega)).mono ?_
    rintro e w3 ⟨y, rfl, y0, y1, y2, c1, b1⟩
    replace y1 := y1 (by omega)
    have H3 := hide c1
    replace HB := hide ((unhide HB).trans b1)
    have yw : IntKind.u64.wrap y = y := by rw [IntKind.wrap_u64]; omega
    clear c1 b1 H2
    go_wp2_with fail
    go_ret
    exact ⟨_, rfl, (wrap64_in _).1, (wrap64_in _).2, (unhide H3).mono (by omega), unhide HB⟩
  · go_wp2_with fail
    refine (among_v C _ w1.heap.size 0 11 11 [0, 1, -1, 65535, 65536, -65536, 4611686018427387904, -4611686018427387904, 4611686018427387905, -9223372036854775808, 9223372036854775807] _ ((unhide H1).later ((Below.refl _ _).alloc (Nat.le_refl _) _)) (by omega) (by omega) (by omega) rfl (by omega) (by simp) (cells11 _ _ rfl _ rfl)).mono ?_
    rintro e w2 ⟨x, rfl, hx, c1, b1⟩
    have hx2 : -9223372036854775808 ≤ x ∧ x ≤ 9223372036854775807 := by simp at hx; omega
    have H2 := hide c1
    replace HB := hide (((unhide HB).trans (al_but _)).trans b1)
    clear c1 b1 H1 hx
    go_wp2_with fail
    go_ret
    exact ⟨x, rfl, hx2.1, hx2.2, (unhide H2).mono (by omega), unhide HB⟩
/-- A number's cells; all that was there stays. -/
def OutD1 (w : World) (e : Ending) (w' : World) : Prop := ∃ (b : BV) (d : BD), e = .returned (.agg #[.bool b.g, .slice b.a b.n b.c]) ∧ AllAr w' [(b, d)] ∧ AllOwn w.heap.size w'.heap.size w' [(b, d)] ∧ d.xs.length ≤ 42 ∧ Below w.heap.size w w'
theorem d1_fin {w W : World} {b : BV} {d : BD} {h1 : Nat} {x0 x1 : Value} (bw : Below w.heap.size w W) (o1 : AllOwn (w.heap.size + 1) h1 W [(b, d)]) (q1 : h1 ≤ W.heap.size) (a1 : AllAr W [(b, d)]) (l1 : d.xs.length ≤ 42) :
    OutD1 w (.returned (.agg #[.bool b.g, .slice b.a b.n b.c])) ((W.setCell ⟨w.heap.size, 0, none⟩ x0).setCell ⟨w.heap.size, 1, none⟩ x1) := by
  have hb : But w.heap.size (w.heap.size + 1) W ((W.setCell ⟨w.heap.size, 0, none⟩ x0).setCell ⟨w.heap.size, 1, none⟩ x1) := ((But.refl _ _ W).set (p := ⟨w.heap.size, 0, none⟩) (Nat.le_refl _) (Nat.lt_succ_self _) _).set (p := ⟨w.heap.size, 1, none⟩) (Nat.le_refl _) (Nat.lt_succ_self _) _
  exact ⟨b, d, rfl, ar_keep2 o1 a1 hb (Nat.le_refl _), (o1.but hb (.inr (Nat.le_refl _))).wide (by omega) (Nat.le_trans q1 hb.size), l1, hb.below bw (Nat.le_refl _) bw.size⟩
set_option maxHeartbeats 4000000 in
theorem drawInt (a : Option Addr) (n c : Nat) (w : World) (h : ArY w a n) :
    Calls Try.prog 20 #[.slice a n c] w (OutD1 w) := by
  have H := hide h
  clear h
  go_enter Try.func20, Try.ntmps20
  go_wp2_with fail
  have e0 : (w.alloc (.cells #[.bool false, .slice none 0 0] 25)).heap.size = w.heap.size + 1 := by simp
  have al : Below w.heap.size w (w.alloc (.cells #[.bool false, .slice none 0 0] 25)) := (Below.refl _ _).alloc (Nat.le_refl _) _
  have CU : Hid (Cur (w.heap.size + 1) 0 ((w.alloc (.cells #[.bool false, .slice none 0 0] 25)).alloc (.cells #[.slice a n c, .int .i64 0, .int .u64 0] 80))) := hide (e0 ▸ Cur.new (w := (w.alloc (.cells #[.bool false, .slice none 0 0] 25))) (c := c) (t := 80) ((unhide H).later al))
  have al3 : Below (w.alloc (.cells #[.bool false, .slice none 0 0] 25)).heap.size (w.alloc (.cells #[.bool false, .slice none 0 0] 25)) ((w.alloc (.cells #[.bool false, .slice none 0 0] 25)).alloc (.cells #[.slice a n c, .int .i64 0, .int .u64 0] 80)) := (Below.refl _ _).alloc (Nat.le_refl _) _
  have Z1 : Hid (Zb ((w.alloc (.cells #[.bool false, .slice none 0 0] 25)).alloc (.cells #[.slice a n c, .int .i64 0, .int .u64 0] 80)) w.heap.size) := hide (Zb.new.later al3)
  have BW : Hid (Below w.heap.size w ((w.alloc (.cells #[.bool false, .slice none 0 0] 25)).alloc (.cells #[.slice a n c, .int .i64 0, .int .u64 0] 80))) := hide (al.trans (al3.mono (by omega)))
  have sz3 : ((w.alloc (.cells #[.bool false, .slice none 0 0] 25)).alloc (.cells #[.slice a n c, .int .i64 0, .int .u64 0] 80)).heap.size = w.heap.size + 2 := by simp
  clear al al3 e0
  refine (one_v (w.heap.size + 1) 0 2 _ (unhide CU) (by omega) (by omega)).mono ?_
  rintro e w1 ⟨o1, rfl, c1, bt⟩
  have CU1 := hide c1
  have ZZ1 := hide ((unhide Z1).keep bt (.inl (by omega)))
  have BW1 : Hid (Below w.heap.size w w1) := hide (bt.below (unhide BW) (by omega) (by omega))
  have s1 : w.heap.size + 2 ≤ w1.heap.size := by have := bt.size; omega
  clear bt c1 CU Z1 BW sz3
  cases o1
  · go_wp2_with fail
    refine (big_v (w.heap.size + 1) 2 _ (unhide CU1) (by omega)).mono ?_
    rintro e w2 ⟨b1, d1, rfl, o1, a1, l1, c1, bt⟩
    replace ZZ1 := hide ((unhide ZZ1).keep bt (.inl (by omega)))
    replace BW1 := hide (bt.below (unhide BW1) (by omega) (by omega))
    have O1 := hide (o1.wide (show w.heap.size + 1 ≤ w1.heap.size by omega) (Nat.le_refl _))
    have A1 := hide a1
    have r0 := (unhide ZZ1).c0
    have r1 := (unhide ZZ1).c1
    have rf := (unhide ZZ1).fz
    clear o1 a1 c1 bt CU1
    go_wp2_with fail
    refine bodyPost_ret (v := .agg #[.bool b1.g, .slice b1.a b1.n b1.c]) (by simp [results, Try.results20, go_sem, r0, r1]) rfl ?_
    exact d1_fin (unhide BW1) (unhide O1) (Nat.le_refl _) (unhide A1) l1
  · go_wp2_with fail
    refine (anyInt_v (w.heap.size + 1) 2 _ (unhide CU1) (by omega)).mono ?_
    rintro e w2 ⟨x, rfl, x0, x1, c1, bt⟩
    replace ZZ1 := hide ((unhide ZZ1).keep bt (.inl (by omega)))
    replace BW1 := hide (bt.below (unhide BW1) (by omega) (by omega))
    have s2 := bt.size
    clear c1 bt CU1
    go_wp2_with fail
    refine (bigOfS_any x _ x0 x1).mono ?_
    rintro e w3 ⟨a2, n2, c2, zs, rfl, hb, ho, ha, hn⟩
    replace ZZ1 := hide ((unhide ZZ1).later hb)
    replace BW1 := hide ((unhide BW1).trans (hb.mono (by omega)))
    have O1 := hide (AllOwn.one (b := ⟨decide (x < 0), a2, n2, c2⟩) (d := ⟨decide (x < 0), zs⟩) ⟨rfl, (ho.mono (show w.heap.size + 1 ≤ w2.heap.size by omega)).two, ha.len⟩)
    have A1 := hide (AllAr.cons (b := ⟨decide (x < 0), a2, n2, c2⟩) (d := ⟨decide (x < 0), zs⟩) ⟨rfl, ha⟩ (AllAr.nil _))
    have L1 := hide (Nm.len4 hn (by omega))
    have r0 := (unhide ZZ1).c0
    have r1 := (unhide ZZ1).c1
    have rf := (unhide ZZ1).fz
    clear hb ho ha hn
    generalize decide (x < 0) = g at *
    go_wp2_with fail
    refine bodyPost_ret (v := .agg #[.bool g, .slice a2 n2 c2]) (by simp [results, Try.results20, go_sem, r0, r1]) rfl ?_
    exact d1_fin (b := ⟨g, a2, n2, c2⟩) (d := ⟨g, zs⟩) (unhide BW1) (unhide O1) (Nat.le_refl _) (unhide A1) (show zs.length ≤ 42 by have := unhide L1; omega)
end Go.Proofs.Ytagnhgefdcckoaa
namespace Go.Proofs.Ytagnhgefdcckoaa
open Go.RowKit
set_option linter.unusedVariables false
set_option maxRecDepth 100000
set_option linter.unusedSimpArgs false

theorem smI_nil (a a' : Option Addr) (c c' : Nat) (w : World) :
    Calls Try.prog 59 #[.slice a 0 c, .slice a' 0 c'] w fun e w' => e = .returned (.bool true) ∧ Below w.heap.size w w' := by
  go_enter Try.func59, Try.ntmps59
  go_wp2
  refine wp_loop_rounds 1 ?_
  rw [rounds_succ]
  go_wp2
  go_ret
  exact ⟨rfl, Below.refl _ _⟩

set_option maxHeartbeats 1000000 in
theorem smI_cons (b off b' off' n c c' : Nat) (xs : List Int) (w : World) (hm : n ≤ maxLen) (h0 : 0 < n) (hb : b < w.heap.size) (hb' : b' < w.heap.size)
    (hc : ∀ i, i < n → w.cell? ⟨b, off + i, none⟩ = some (.int .i64 (xs.getD i 0))) (hc' : ∀ i, i < n → w.cell? ⟨b', off' + i, none⟩ = some (.int .i64 (xs.getD i 0))) :
    Calls Try.prog 59 #[.slice (some ⟨b, off, none⟩) n c, .slice (some ⟨b', off', none⟩) n c'] w fun e w' => e = .returned (.bool true) ∧ Below w.heap.size w w' := by
  unfold maxLen at hm
  have HC := hide hc
  have HC' := hide hc'
  clear hc hc'
  go_enter Try.func59, Try.ntmps59
  go_wp2
  go_loopw [13] (fun i wr => ∃ k : Nat, k ≤ n ∧ i = .int .i64 k ∧ Below w.heap.size w wr) (fun i _ => n - (intOf i).toNat)
  case atStart => exact ⟨0, Nat.zero_le _, rfl, Below.refl _ _⟩
  case round =>
    obtain ⟨k, hk, rfl, hbel⟩ := hrel
    by_cases hlt : k < n
    · have hk1 : (k : Int) < (n : Int) := by omega
      have e1 : wr.cell? ⟨b, off + k, none⟩ = some (.int .i64 (xs.getD k 0)) := (hbel.cell (by exact hb)).trans (unhide HC k hlt)
      have e2 : wr.cell? ⟨b', off' + k, none⟩ = some (.int .i64 (xs.getD k 0)) := (hbel.cell (by exact hb')).trans (unhide HC' k hlt)
      generalize xs.getD k 0 = x at e1 e2
      have HB := hide hbel
      clear hbel
      go_wp2
      go_quiet (fail)
      go_wp2
      go_roundw
      case rel => exact ⟨k + 1, by omega, by go_num, below_drewN (unhide HB) _⟩
      case measure => simp [intOf]; omega
    · go_wp2
      go_ret
      exact ⟨rfl, hbel⟩

theorem smI_same (a a' : Option Addr) (n c c' : Nat) (xs : List Int) (w : World) (hx : Sl w a xs) (hx' : Sl w a' xs) (hn : xs.length = n) (hm : n ≤ maxLen) :
    Calls Try.prog 59 #[.slice a n c, .slice a' n c'] w fun e w' => e = .returned (.bool true) ∧ Below w.heap.size w w' := by
  by_cases h0 : n = 0
  · subst h0
    exact smI_nil a a' c c' w
  · rcases hx with rfl | ⟨b, off, rfl, hb, hc⟩
    · simp at hn; omega
    rcases hx' with rfl | ⟨b', off', rfl, hb', hc'⟩
    · simp at hn; omega
    exact smI_cons b off b' off' n c c' xs w hm (by omega) hb hb' (by rw [← hn]; exact hc) (by rw [← hn]; exact hc')


theorem sameB (b b' : BV) (d : BD) (w : World) (h : AllSl w [(b, d)]) (h' : AllSl w [(b', d)]) (hm : d.xs.length ≤ 1048576) :
    Calls Try.prog 16 #[.agg #[.bool b.g, .slice b.a b.n b.c], .agg #[.bool b'.g, .slice b'.a b'.n b'.c]] w fun e w' => e = .returned (.bool true) ∧ Below w.heap.size w w' := by
  obtain ⟨g, a, n, c⟩ := b
  obtain ⟨g', a', n', c'⟩ := b'
  obtain ⟨gd, xs⟩ := d
  have k := h _ (List.mem_singleton.2 rfl)
  have k' := h' _ (List.mem_singleton.2 rfl)
  have e0 : g = gd := k.sg
  have e1 : g' = gd := k'.sg
  have hx : Sl w a xs := k.sl
  have hx' : Sl w a' xs := k'.sl
  have hn : xs.length = n := k.len
  have hn' : xs.length = n' := k'.len
  have hm2 : xs.length ≤ 1048576 := hm
  clear k k' hm h h'
  subst e0 e1
  obtain rfl : n = n' := hn.symm.trans hn'
  have HX := hide hx
  have HX' := hide hx'
  have HN := hide hn
  have HM : Hid (n ≤ maxLen) := hide (by unfold maxLen; omega)
  clear hx hx' hn hn' hm2
  go_enter Try.func16, Try.ntmps16
  go_wp2_with fail
  refine (smI_same a a' n c c' xs _ ((unhide HX).later (Nat.le_refl _) (by exact ((Below.refl _ _).alloc (Nat.le_refl _) _).alloc (by simp) _)) ((unhide HX').later (Nat.le_refl _) (by exact ((Below.refl _ _).alloc (Nat.le_refl _) _).alloc (by simp) _)) (unhide HN) (unhide HM)).mono ?_
  rintro e w1 ⟨rfl, hb⟩
  go_wp2
  go_ret
  exact ⟨rfl, (((Below.refl _ _).alloc (Nat.le_refl _) _).alloc (by simp) _).trans (hb.mono (by simp; omega))⟩
theorem zeroB (b : BV) (w : World) :
    Calls Try.prog 17 #[.agg #[.bool b.g, .slice b.a b.n b.c]] w fun e w' => ∃ z : Bool, e = .returned (.bool z) ∧ Below w.heap.size w w' ∧ (z = true ↔ b.n = 0) := by
  go_enter Try.func17, Try.ntmps17
  go_wp2
  go_ret
  exact ⟨_, rfl, (Below.refl _ _).alloc (Nat.le_refl _) _, by simp⟩
end Go.Proofs.Ytagnhgefdcckoaa
namespace Go.Proofs.Ytagnhgefdcckoaa
open Go.RowKit
set_option linter.unusedVariables false
set_option maxRecDepth 100000
set_option linter.unusedSimpArgs false

theorem zAr (w : World) : AllAr w [((⟨false, none, 0, 0⟩ : BV), (⟨false, []⟩ : BD))] := AllAr.cons ⟨rfl, Arg.none _⟩ (AllAr.nil _)
def RetDa (w : World) (U : QD → Bool → Prop) (e : Ending) (w' : World) : Prop := ∃ (v : QV) (d : QD) (ok : Bool), e = .returned (.tuple #[.agg #[.bool v.num.g, .slice v.num.a v.num.n v.num.c], .agg #[.bool v.den.g, .slice v.den.a v.den.n v.den.c], .bool ok]) ∧ Below w.heap.size w w' ∧ AllAr w' [(v.num, d.num)] ∧ AllAr w' [(v.den, d.den)] ∧ U d ok
theorem retDa_fin {w wN : World} {R : Nat} {v : QV} {d : QD} {ok : Bool} {U : QD → Bool → Prop} (hR : w.heap.size ≤ R) (hb : Below w.heap.size w wN) (ho : AllOwn (R + 1 + 1) wN.heap.size wN [(v.num, d.num), (v.den, d.den)]) (q1 : AllAr wN [(v.num, d.num)]) (q2 : AllAr wN [(v.den, d.den)]) (hu : U d ok) :
    RetDa w U (.returned (.tuple #[.agg #[.bool v.num.g, .slice v.num.a v.num.n v.num.c], .agg #[.bool v.den.g, .slice v.den.a v.den.n v.den.c], .bool ok])) ((((wN.setCell ⟨R, 0, none⟩ (.bool v.num.g)).setCell ⟨R, 1, none⟩ (.slice v.num.a v.num.n v.num.c)).setCell ⟨R + 1, 0, none⟩ (.bool v.den.g)).setCell ⟨R + 1, 1, none⟩ (.slice v.den.a v.den.n v.den.c)) := by
  have bt1 := metB_but (w5 := wN) (v := v.num) (G := R)
  have bt2 := metB_but (w5 := (wN.setCell ⟨R, 0, none⟩ (.bool v.num.g)).setCell ⟨R, 1, none⟩ (.slice v.num.a v.num.n v.num.c)) (v := v.den) (G := R + 1)
  have h1 := bt1.below hb hR hb.size
  have o1 : AllOwn (R + 1 + 1) wN.heap.size wN [(v.num, d.num)] := AllOwn.one (ho.own (v.num, d.num) (by simp))
  have o2 : AllOwn (R + 1 + 1) wN.heap.size wN [(v.den, d.den)] := AllOwn.one (ho.own (v.den, d.den) (by simp))
  exact ⟨v, d, ok, rfl, bt2.below h1 (by omega) h1.size, ar_keep2 (o1.but bt1 (.inr (by omega))) (ar_keep2 o1 q1 bt1 (by omega)) bt2 (by omega), ar_keep2 (o2.but bt1 (.inr (by omega))) (ar_keep2 o2 q2 bt1 (by omega)) bt2 (by omega), hu⟩
set_option maxHeartbeats 4000000 in
theorem DivI_r (b b' : BV) (d d' : BD) (w : World) (h : AllAr w [(b, d)]) (h' : AllAr w [(b', d')]) : Calls Try.prog 12 #[.agg #[.bool b.g, .slice b.a b.n b.c], .agg #[.bool b'.g, .slice b'.a b'.n b'.c]] w (RetDa w (AnsD (pD d d') (qD d d') (rD d d'))) := by
  have HX := hide h.head
  have HY := hide h'.head
  clear h h'
  cases hP : (goodB d.g d.xs && goodB d'.g d'.xs)
  · have C1 := hide (fun w1 (k : Sl w1 b.a d.xs) (k' : Sl w1 b'.a d'.xs) => pair_any b.g b'.g b.a b'.a b.n b'.n b.c b'.c d.xs d'.xs w1 k k' (unhide HX).ar.len (unhide HY).ar.len (Nat.le_trans (unhide HX).ar.cap (unhide HX).ar.top) (Nat.le_trans (unhide HY).ar.cap (unhide HY).ar.top))
    rw [(unhide HX).sg, (unhide HY).sg, hP, ← (unhide HX).sg, ← (unhide HY).sg] at C1
    have B0 := hide (show Below w.heap.size w ((((w.alloc (.cells #[.bool b.g, .slice b.a b.n b.c] 25)).alloc (.cells #[.bool b'.g, .slice b'.a b'.n b'.c] 25)).alloc (.cells #[.bool false, .slice none 0 0] 25)).alloc (.cells #[.bool false, .slice none 0 0] 25)) from (((((Below.refl _ _).alloc (by simp) _).alloc (by simp) _).alloc (by simp <;> omega) _).alloc (by simp <;> omega) _))
    have hp : pD d d' = false := by unfold pD; rw [hP]; rfl
    rw [hp]
    go_enter Try.func12, Try.ntmps12
    go_wp2_with fail
    refine (unhide C1 _ ((unhide HX).ar.later (unhide B0)).sl ((unhide HY).ar.later (unhide B0)).sl).mono ?_
    rintro e w1 ⟨rfl, hb⟩
    have r0 : w1.cell? ⟨w.heap.size + 1 + 1, 0, none⟩ = some (.bool false) := cell_later hb (by simp [go_sem])
    have r1 : w1.cell? ⟨w.heap.size + 1 + 1, 1, none⟩ = some (.slice none 0 0) := cell_later hb (by simp [go_sem])
    have r2 : w1.cell? ⟨w.heap.size + 1 + 1 + 1, 0, none⟩ = some (.bool false) := cell_later hb (by simp [go_sem])
    have r3 : w1.cell? ⟨w.heap.size + 1 + 1 + 1, 1, none⟩ = some (.slice none 0 0) := cell_later hb (by simp [go_sem])
    have f0 : ∀ o, w1.frozen? ⟨w.heap.size + 1 + 1, o, none⟩ = false := fun o => frozen_later hb (by simp) (by simp [go_sem])
    have f1 : ∀ o, w1.frozen? ⟨w.heap.size + 1 + 1 + 1, o, none⟩ = false := fun o => frozen_later hb (by simp) (by simp [go_sem])
    have s1 : w.heap.size + 1 + 1 + 1 + 1 ≤ w1.heap.size := by have := hb.size; simp at this; omega
    have HB := hide (below_on (unhide B0) hb)
    clear hb
    go_wp2
    exact bodyPost_ret (v := .tuple #[.agg #[.bool false, .slice none 0 0], .agg #[.bool false, .slice none 0 0], .bool false]) (by simp [results, Try.results12, go_sem, r0, r1, r2, r3]) rfl (retDa_fin (v := ⟨⟨false, none, 0, 0⟩, ⟨false, none, 0, 0⟩⟩) (d := ⟨⟨false, []⟩, ⟨false, []⟩⟩) (R := w.heap.size + 1 + 1) (by omega) (unhide HB) (zeroQ _ _ _) (zAr _) (zAr _) AnsD.no)
  · by_cases h0 : d'.xs.length = 0
    · have C1 := hide (fun w1 (k : Sl w1 b.a d.xs) (k' : Sl w1 b'.a d'.xs) => pair_any b.g b'.g b.a b'.a b.n b'.n b.c b'.c d.xs d'.xs w1 k k' (unhide HX).ar.len (unhide HY).ar.len (Nat.le_trans (unhide HX).ar.cap (unhide HX).ar.top) (Nat.le_trans (unhide HY).ar.cap (unhide HY).ar.top))
      rw [(unhide HX).sg, (unhide HY).sg, hP, ← (unhide HX).sg, ← (unhide HY).sg] at C1
      have B0 := hide (show Below w.heap.size w ((((w.alloc (.cells #[.bool b.g, .slice b.a b.n b.c] 25)).alloc (.cells #[.bool b'.g, .slice b'.a b'.n b'.c] 25)).alloc (.cells #[.bool false, .slice none 0 0] 25)).alloc (.cells #[.bool false, .slice none 0 0] 25)) from (((((Below.refl _ _).alloc (by simp) _).alloc (by simp) _).alloc (by simp <;> omega) _).alloc (by simp <;> omega) _))
      have hp : pD d d' = false := by unfold pD; rw [hP, h0]; rfl
      rw [hp]
      have HN : Hid (b'.n = 0) := hide (by have := (unhide HY).ar.len; omega)
      clear h0
      go_enter Try.func12, Try.ntmps12
      go_wp2_with fail
      refine (unhide C1 _ ((unhide HX).ar.later (unhide B0)).sl ((unhide HY).ar.later (unhide B0)).sl).mono ?_
      rintro e w1 ⟨rfl, hb⟩
      have r0 : w1.cell? ⟨w.heap.size + 1 + 1, 0, none⟩ = some (.bool false) := cell_later hb (by simp [go_sem])
      have r1 : w1.cell? ⟨w.heap.size + 1 + 1, 1, none⟩ = some (.slice none 0 0) := cell_later hb (by simp [go_sem])
      have r2 : w1.cell? ⟨w.heap.size + 1 + 1 + 1, 0, none⟩ = some (.bool false) := cell_later hb (by simp [go_sem])
      have r3 : w1.cell? ⟨w.heap.size + 1 + 1 + 1, 1, none⟩ = some (.slice none 0 0) := cell_later hb (by simp [go_sem])
      have cy0 : w1.cell? ⟨w.heap.size + 1, 0, none⟩ = some (.bool b'.g) := cell_later hb (by simp [go_sem])
      have cy1 : w1.cell? ⟨w.heap.size + 1, 1, none⟩ = some (.slice b'.a b'.n b'.c) := cell_later hb (by simp [go_sem])
      have f0 : ∀ o, w1.frozen? ⟨w.heap.size + 1 + 1, o, none⟩ = false := fun o => frozen_later hb (by simp) (by simp [go_sem])
      have f1 : ∀ o, w1.frozen? ⟨w.heap.size + 1 + 1 + 1, o, none⟩ = false := fun o => frozen_later hb (by simp) (by simp [go_sem])
      have s1 : w.heap.size + 1 + 1 + 1 + 1 ≤ w1.heap.size := by have := hb.size; simp at this; omega
      have HB := hide (below_on (unhide B0) hb)
      clear hb
      have hn0 : ((b'.n : Nat) : Int) = 0 := by have := unhide HN; omega
      go_wp2
      exact bodyPost_ret (v := .tuple #[.agg #[.bool false, .slice none 0 0], .agg #[.bool false, .slice none 0 0], .bool false]) (by simp [results, Try.results12, go_sem, r0, r1, r2, r3]) rfl (retDa_fin (v := ⟨⟨false, none, 0, 0⟩, ⟨false, none, 0, 0⟩⟩) (d := ⟨⟨false, []⟩, ⟨false, []⟩⟩) (R := w.heap.size + 1 + 1) (by omega) (unhide HB) (zeroQ _ _ _) (zAr _) (zAr _) AnsD.no)
    · have hg1 : goodB d.g d.xs = true := by revert hP; cases goodB d.g d.xs <;> simp
      have hg2 : goodB d'.g d'.xs = true := by revert hP; cases goodB d'.g d'.xs <;> simp
      have NX := hide (good_parts hg1)
      have NY := hide (good_parts hg2)
      have GG := hide (And.intro hg1 hg2)
      have LX : Hid (b.n ≤ 40 ∧ b'.n ≤ 40 ∧ 1 ≤ b'.n) := hide (by have := (good_parts hg1).2.2.1; have := (good_parts hg2).2.2.1; have := (unhide HX).ar.len; have := (unhide HY).ar.len; omega)
      have C1 := hide (fun w1 (k : Sl w1 b.a d.xs) (k' : Sl w1 b'.a d'.xs) => pair_any b.g b'.g b.a b'.a b.n b'.n b.c b'.c d.xs d'.xs w1 k k' (unhide HX).ar.len (unhide HY).ar.len (Nat.le_trans (unhide HX).ar.cap (unhide HX).ar.top) (Nat.le_trans (unhide HY).ar.cap (unhide HY).ar.top))
      rw [(unhide HX).sg, (unhide HY).sg, hP, ← (unhide HX).sg, ← (unhide HY).sg] at C1
      have B0 := hide (show Below w.heap.size w ((((w.alloc (.cells #[.bool b.g, .slice b.a b.n b.c] 25)).alloc (.cells #[.bool b'.g, .slice b'.a b'.n b'.c] 25)).alloc (.cells #[.bool false, .slice none 0 0] 25)).alloc (.cells #[.bool false, .slice none 0 0] 25)) from (((((Below.refl _ _).alloc (by simp) _).alloc (by simp) _).alloc (by simp <;> omega) _).alloc (by simp <;> omega) _))
      have SX := hide (And.intro (unhide HX).sg (unhide HY).sg)
      have YP := hide (val_pos_of (unhide NY).1 (unhide NY).2.1 h0)
      have hn : ¬ ((b'.n : Int) = 0) := by have := (unhide HY).ar.len; omega
      have H0 := hide h0
      clear hg1 hg2 h0 hP
      go_enter Try.func12, Try.ntmps12
      go_wp2_with fail
      refine (unhide C1 _ ((unhide HX).ar.later (unhide B0)).sl ((unhide HY).ar.later (unhide B0)).sl).mono ?_
      rintro e w1 ⟨rfl, hb⟩
      have r0 : w1.cell? ⟨w.heap.size + 1 + 1, 0, none⟩ = some (.bool false) := cell_later hb (by simp [go_sem])
      have r1 : w1.cell? ⟨w.heap.size + 1 + 1, 1, none⟩ = some (.slice none 0 0) := cell_later hb (by simp [go_sem])
      have r2 : w1.cell? ⟨w.heap.size + 1 + 1 + 1, 0, none⟩ = some (.bool false) := cell_later hb (by simp [go_sem])
      have r3 : w1.cell? ⟨w.heap.size + 1 + 1 + 1, 1, none⟩ = some (.slice none 0 0) := cell_later hb (by simp [go_sem])
      have cx0 : w1.cell? ⟨w.heap.size, 0, none⟩ = some (.bool b.g) := cell_later hb (by simp [go_sem])
      have cx1 : w1.cell? ⟨w.heap.size, 1, none⟩ = some (.slice b.a b.n b.c) := cell_later hb (by simp [go_sem])
      have cy0 : w1.cell? ⟨w.heap.size + 1, 0, none⟩ = some (.bool b'.g) := cell_later hb (by simp [go_sem])
      have cy1 : w1.cell? ⟨w.heap.size + 1, 1, none⟩ = some (.slice b'.a b'.n b'.c) := cell_later hb (by simp [go_sem])
      have f0 : ∀ o, w1.frozen? ⟨w.heap.size + 1 + 1, o, none⟩ = false := fun o => frozen_later hb (by simp) (by simp [go_sem])
      have f1 : ∀ o, w1.frozen? ⟨w.heap.size + 1 + 1 + 1, o, none⟩ = false := fun o => frozen_later hb (by simp) (by simp [go_sem])
      have s1 : w.heap.size + 1 + 1 + 1 + 1 ≤ w1.heap.size := by have := hb.size; simp at this; omega
      have HB := hide (below_on (unhide B0) hb)
      clear hb
      go_wp2_with fail
      refine (divI_any b.a b'.a b.n b'.n b.c b'.c d.xs d'.xs _ ((unhide HX).ar.later (unhide HB)) ((unhide HY).ar.later (unhide HB)) (unhide NX).1 (unhide NX).2.1 (unhide NY).1 (unhide NY).2.1 (unhide LX).2.2 (by have := unhide LX; omega) (by have := unhide LX; omega)).mono ?_
      rintro e w2 ⟨a2, n2, c2, zs, a3, n3, c3, rs, rfl, hb, ho2, ha2, hn2, ho3, ha3, hn3, hap⟩
      have hmid := mid_of ho2 ho3 hap hb.size
      obtain ⟨mid, m1, m2, om1, om2⟩ := hmid
      have N2 := hide hn2
      have N3 := hide hn3
      have A2 := hide (ha2)
      have A3 := hide (ha3)
      have O2 := hide (om1.wide (lo' := w.heap.size + 1 + 1 + 1 + 1) (by omega) (Nat.le_refl _))
      have O3 := hide om2
      have m1' : w.heap.size + 1 + 1 + 1 + 1 ≤ mid := Nat.le_trans s1 m1
      clear ho2 ha2 hn2 ho3 ha3 hn3 hap om1 om2 m1
      replace r0 := cell_later hb r0
      replace r1 := cell_later hb r1
      replace r2 := cell_later hb r2
      replace r3 := cell_later hb r3
      replace cx0 := cell_later hb cx0
      replace cy0 := cell_later hb cy0
      replace f0 : ∀ o, w2.frozen? ⟨w.heap.size + 1 + 1, o, none⟩ = false := fun o => frozen_later hb (by omega) (f0 o)
      replace f1 : ∀ o, w2.frozen? ⟨w.heap.size + 1 + 1 + 1, o, none⟩ = false := fun o => frozen_later hb (by omega) (f1 o)
      replace s1 : w.heap.size + 1 + 1 + 1 + 1 ≤ w2.heap.size := Nat.le_trans s1 hb.size
      replace HB := hide (below_on (unhide HB) hb)
      clear hb
      clear cx1 cy1
      have k0_0 := cx0
      have k1_0 := cy0
      have k2_0 := r0
      have k2_1 := r1
      have k3_0 := r2
      have k3_1 := r3
      have z2 := f0
      have z3 := f1
      clear cx0 cy0 r0 r1 r2 r3 f0 f1
      have ne : (w.heap.size ≠ w.heap.size + 1 + 1) ∧ (w.heap.size + 1 ≠ w.heap.size + 1 + 1) ∧ (w.heap.size ≠ w.heap.size + 1 + 1 + 1) ∧ (w.heap.size + 1 ≠ w.heap.size + 1 + 1 + 1) := by omega
      go_upto_region 4 with fail
      go_region_held3 (fun w' => w'.cell? ⟨w.heap.size, 0, none⟩ = some (.bool b.g) ∧ w'.cell? ⟨w.heap.size + 1, 0, none⟩ = some (.bool b'.g)) (with_reducible (first | exact ⟨k0_0, k1_0⟩ | exact ⟨cd_other k0_0, cd_other k1_0⟩ | exact ⟨j0, j1⟩ | exact ⟨i0, i1⟩ | exact ⟨cs_other (cs_other i0 ne.1) ne.1, cs_other (cs_other i1 ne.2.1) ne.2.1⟩ | exact ⟨cs_other (cs_other (cs_other (cs_other i0 ne.1) ne.1) ne.2.2.1) ne.2.2.1, cs_other (cs_other (cs_other (cs_other i1 ne.2.1) ne.2.1) ne.2.2.2) ne.2.2.2⟩ | fail))
        (first
        | (go_at_call_of 51 (Value.bool (!(b.g == b'.g))); refine (signI_v _ a2 n2 c2 zs _ (w.heap.size + 1 + 1 + 1 + 1) mid (val d.xs / val d'.xs) (?_) (?_) (unhide N2)).mono ?_; exact (unhide A2).drew; exact (unhide O2).later (Below.refl _ _).drew; rintro e w3 ⟨x1, rfl, hb', ow1, ar1⟩; have hb := below_of_drew hb'; have s3 := hb.size; have OW1 := hide ow1; have AR1 := hide ar1; have A3b := hide ((unhide A3).later hb); have O3b := hide ((unhide O3).later hb); have B3 := hide hb; have j0 := cell_later hb k0_0; have j1 := cell_later hb k1_0; have j2 := cell_later hb k2_0; have j3 := cell_later hb k2_1; have j4 := cell_later hb k3_0; have j5 := cell_later hb k3_1; have y2 := fun o => frozen_later hb (World.block_lt_of_cell? _ _ k2_0) (z2 o); have y3 := fun o => frozen_later hb (World.block_lt_of_cell? _ _ k3_0) (z3 o); clear ow1 ar1 hb hb')
        | (go_at_call_of 51 (Value.bool b.g); refine (signI_v _ a3 n3 c3 rs _ mid w2.heap.size (val d.xs % val d'.xs) (?_) (?_) (unhide N3)).mono ?_; exact unhide A3b; exact unhide O3b; rintro e w4 ⟨x2, rfl, hb, ow2, ar2⟩; have s4 := hb.size; have OW2 := hide ow2; have AR2 := hide ar2; have AR1b := hide ((unhide AR1).later hb); have OW1b := hide ((unhide OW1).later hb); have B4 := hide hb; have i0 := cell_later hb j0; have i1 := cell_later hb j1; have i2 := cell_later hb j2; have i3 := cell_later hb j3; have i4 := cell_later hb j4; have i5 := cell_later hb j5; have u2 := fun o => frozen_later hb (World.block_lt_of_cell? _ _ j2) (y2 o); have u3 := fun o => frozen_later hb (World.block_lt_of_cell? _ _ j4) (y3 o); clear ow2 ar2 hb))
      all_goals
        have HB2 := hide (below_on (below_on (unhide HB) (unhide B3)) (unhide B4))
        go_wp2
        refine bodyPost_ret (v := .tuple #[.agg #[.bool x1.g, .slice x1.a x1.n x1.c], .agg #[.bool x2.g, .slice x2.a x2.n x2.c], .bool true]) (by simp [results, Try.results12, go_sem, i2, i3, i4, i5]) rfl ?_
        have a1 := unhide OW1b
        have a2' := unhide OW2
        have q1 := unhide AR1b
        have q2 := unhide AR2
        rw [(unhide SX).1, (unhide SX).2] at a1 q1
        rw [(unhide SX).1] at a2' q2
        exact retDa_fin (v := ⟨x1, x2⟩) (d := ⟨⟨decide (qD d d' < 0), zs⟩, ⟨decide (rD d d' < 0), rs⟩⟩) (R := w.heap.size + 1 + 1) (by omega) (unhide HB2) ((a1.join a2' (by omega) (by omega)).wide (by omega) (by omega)) q1 q2 (ansD_yes (unhide GG).1 (unhide GG).2 (unhide H0) (unhide N2) (unhide N3))
end Go.Proofs.Ytagnhgefdcckoaa
namespace Go.Proofs.Ytagnhgefdcckoaa
open Go.RowKit
set_option linter.unusedVariables false
set_option maxRecDepth 100000
set_option linter.unusedSimpArgs false

theorem gB_neg {g : Bool} {xs : List Int} (h : goodB g xs = true) : (sv g xs < 0 ↔ g = true) ∧ (sv g xs = 0 ↔ xs.length = 0) := by
  obtain ⟨h1, h2, h3, h4⟩ := good_parts h
  have hv := val_nonneg h1
  have hz := val_zero_iff h1 h2
  have hl : xs = [] ↔ xs.length = 0 := List.length_eq_zero_iff.symm
  unfold sv
  cases g
  · rw [if_neg (by simp)]
    exact ⟨⟨fun e => by omega, fun e => by cases e⟩, hz.trans hl⟩
  · rw [if_pos rfl]
    have h5 : xs ≠ [] := fun e => by cases h4 e
    have h6 : val xs ≠ 0 := fun e => h5 (hz.1 e)
    exact ⟨⟨fun _ => rfl, fun _ => by omega⟩, ⟨fun e => by omega, fun e => absurd (hl.2 e) h5⟩⟩
theorem gB_of {g : Bool} {xs : List Int} {V : Int} (h : Nm xs V.natAbs) (hl : xs.length ≤ 40) (hg : g = decide (V < 0)) : goodB g xs = true := by
  unfold goodB
  have ha : xs.all limbOk = true := List.all_eq_true.2 (fun x hx => by have := h.ok x hx; simp [limbOk]; omega)
  rw [ha, Bool.true_and]
  by_cases h0 : xs.length = 0
  · rw [if_pos h0, hg]
    have := h.nil_iff.1 (List.length_eq_zero_iff.1 h0)
    simp
    omega
  · rw [if_neg h0, decide_eq_true hl, Bool.true_and]
    have hne : xs ≠ [] := fun e => h0 (by rw [e]; rfl)
    have hx := List.dropLast_concat_getLast hne
    have hz : xs.getLast hne ≠ 0 := fun e => by
      have h1 := h.tr
      rw [← hx, e, trim_snoc_zero] at h1
      have h2 := congrArg List.length h1
      have h3 := trim_len xs.dropLast
      simp at h2
      rw [h2] at h3
      simp at h3
      omega
    have e : xs.getD (xs.length - 1) 0 = xs.getLast hne := by
      rw [List.getLast_eq_getElem, List.getD_eq_getElem?_getD, List.getElem?_eq_getElem (by omega)]
      rfl
    rw [e]
    simpa using hz
/-- A number in the one form that it has. -/
structure Fm (d : BD) (V : Int) : Prop where
  sg : d.g = decide (V < 0)
  nm : Nm d.xs V.natAbs
  len : d.xs.length ≤ 40
theorem Fm.same {d d' : BD} {V : Int} (h : Fm d V) (k : Fm d' V) : d = d' := by
  obtain ⟨g, xs⟩ := d
  obtain ⟨g', xs'⟩ := d'
  have e1 : g = decide (V < 0) := h.sg
  have e2 : g' = decide (V < 0) := k.sg
  have e3 : xs = xs' := h.nm.same k.nm
  subst e3
  rw [e1, e2]
theorem Fm.of {d : BD} (h : goodB d.g d.xs = true) : Fm d (sv d.g d.xs) := by
  have hn := gB_neg h
  obtain ⟨h1, h2, h3, h4⟩ := good_parts h
  have hv := val_nonneg h1
  refine ⟨?_, ⟨h1, h2, ?_⟩, h3⟩
  · cases hg : d.g
    · exact (decide_eq_false (fun e => by rw [hg] at hn; cases hn.1.1 e)).symm
    · rw [hg] at hn; exact (decide_eq_true (hn.1.2 rfl)).symm
  · unfold sv
    split <;> omega
theorem Fm.val {d : BD} {V : Int} (h : Fm d V) : val d.xs = V.natAbs := h.nm.v
theorem Fm.sve {d : BD} {V : Int} (h : Fm d V) : sv d.g d.xs = V := by
  have e := h.val
  unfold sv
  rw [h.sg, e]
  by_cases hV : V < 0
  · simp [hV]; omega
  · simp [hV]; omega
theorem Fm.good {d : BD} {V : Int} (h : Fm d V) : goodB d.g d.xs = true := gB_of h.nm h.len h.sg
theorem Fm.zero {d : BD} {V : Int} (h : Fm d V) : d.xs.length = 0 ↔ V = 0 := by
  have := h.nm.nil_iff
  rw [← List.length_eq_zero_iff] at this
  omega
theorem ans_yes {P : Bool} {V : Int} {d : BD} (h : Ans P V d.g d.xs true) : P = true ∧ Fm d V := by
  rcases h with ⟨h0, ts, hn, ⟨hl, _, hg, hz⟩ | ⟨_, e, _⟩⟩ | ⟨_, e, _⟩
  · subst hz; exact ⟨h0, hg, hn, hl⟩
  · cases e
  · cases e
theorem ans_fits {P : Bool} {V : Int} {d : BD} {ok : Bool} (h : Ans P V d.g d.xs ok) (hP : P = true) {W : BD} (hW : Fm W V) : ok = true ∧ d = W := by
  rcases h with ⟨h0, ts, hn, ⟨hl, h1, hg, hz⟩ | ⟨hl, _⟩⟩ | ⟨h0, _⟩
  · subst hz; exact ⟨h1, Fm.same ⟨hg, hn, hl⟩ hW⟩
  · have := hn.same hW.nm
    rw [this] at hl
    have := hW.len
    omega
  · rw [hP] at h0; cases h0
theorem ans_le {P : Bool} {V : Int} {d : BD} {ok : Bool} (h : Ans P V d.g d.xs ok) (hP : P = true) {W : BD} {U : Int} (hW : Fm W U) (hle : V.natAbs ≤ U.natAbs) : ok = true ∧ Fm d V := by
  rcases h with ⟨h0, ts, hn, ⟨hl, h1, hg, hz⟩ | ⟨hl, _⟩⟩ | ⟨h0, _⟩
  · subst hz; exact ⟨h1, hg, hn, hl⟩
  · have k := hn.le hW.nm.ok rfl (by rw [hW.val]; omega)
    have := hW.len
    omega
  · rw [hP] at h0; cases h0
theorem ansD_fm {P : Bool} {A B : Int} {d : QD} {ok : Bool} (h : AnsD P A B d ok) (hP : P = true) : ok = true ∧ Fm d.num A ∧ Fm d.den B := by
  rcases h with ⟨h1 | h1, h2 | h2⟩
  · exact ⟨h1.2.1, ⟨h1.2.2.1, h1.2.2.2.1, h1.2.2.2.2⟩, ⟨h2.2.2.1, h2.2.2.2.1, h2.2.2.2.2⟩⟩
  · rw [hP] at h2; cases h2.1
  · rw [hP] at h1; cases h1.1
  · rw [hP] at h1; cases h1.1
theorem ansD_yes2 {P : Bool} {A B : Int} {d : QD} (h : AnsD P A B d true) : P = true := by
  rcases h.1 with h | h
  · exact h.1
  · cases h.2.1
theorem pD_of {d d' : BD} {A B : Int} (h : Fm d A) (k : Fm d' B) (hB : B ≠ 0) : pD d d' = true := by
  unfold pD
  rw [h.good, k.good]
  have := k.zero
  simp
  intro e
  rw [e] at this
  exact hB (this.1 rfl)
theorem sU_mul (A B : Int) (hB : B ≠ 0) : sU (!(decide (A * B < 0) == decide (B < 0))) (A.natAbs : Int) = A := by
  unfold sU
  by_cases h1 : A < 0
  · by_cases h2 : B < 0
    · have h3 : 0 < A * B := Int.mul_pos_of_neg_of_neg h1 h2
      simp [h2, show ¬ A * B < 0 by omega]; omega
    · have h3 : A * B < 0 := Int.mul_neg_of_neg_of_pos h1 (by omega)
      simp [h2, h3]; omega
  · by_cases h0 : A = 0
    · subst h0; simp
    · by_cases h2 : B < 0
      · have h3 : A * B < 0 := Int.mul_neg_of_pos_of_neg (by omega) h2
        simp [h2, h3]; omega
      · have h3 : 0 < A * B := Int.mul_pos (by omega) (by omega)
        simp [h2, show ¬ A * B < 0 by omega]; omega
theorem qr_mul {d d' : BD} {A B : Int} (h : Fm d (A * B)) (k : Fm d' B) (hB : B ≠ 0) : qD d d' = A ∧ rD d d' = 0 := by
  have e1 : ((A * B).natAbs : Int) / (B.natAbs : Int) = (A.natAbs : Int) := by rw [Int.natAbs_mul, Int.natCast_mul]; exact Int.mul_ediv_cancel _ (by omega)
  have e2 : ((A * B).natAbs : Int) % (B.natAbs : Int) = 0 := by rw [Int.natAbs_mul, Int.natCast_mul]; exact Int.mul_emod_left _ _
  constructor
  · unfold qD
    rw [h.val, k.val, h.sg, k.sg, e1]
    exact sU_mul A B hB
  · unfold rD
    rw [h.val, k.val, e2]
    unfold sU
    split <;> rfl
theorem pd_back {da db dp : BD} (h : Ans (goodB da.g da.xs && goodB db.g db.xs) (sv da.g da.xs * sv db.g db.xs) dp.g dp.xs true) (h0 : db.xs.length ≠ 0) {d : QD} {ok : Bool} (k : AnsD (pD dp db) (qD dp db) (rD dp db) d ok) : ok = true ∧ d.num = da ∧ d.den.xs.length = 0 := by
  obtain ⟨hP, hp⟩ := ans_yes h
  have hg := (Bool.and_eq_true _ _).mp hP
  have fa := Fm.of hg.1
  have fb := Fm.of hg.2
  have hB : sv db.g db.xs ≠ 0 := fun e => h0 (fb.zero.2 e)
  obtain ⟨e1, e2⟩ := qr_mul hp fb hB
  rw [e1, e2] at k
  obtain ⟨q1, q2, q3⟩ := ansD_fm k (pD_of hp fb hB)
  exact ⟨q1, q2.same fa, q3.zero.2 rfl⟩
theorem val_eq {d : BD} {A : Int} (h : Fm d A) : val d.xs = A.natAbs := h.val
theorem qr_sum (A B : Int) (hB : B ≠ 0) : sU (!(decide (A < 0) == decide (B < 0))) ((A.natAbs : Int) / (B.natAbs : Int)) * B + sU (decide (A < 0)) ((A.natAbs : Int) % (B.natAbs : Int)) = A := by
  have h1 := Int.mul_ediv_add_emod (A.natAbs : Int) (B.natAbs : Int)
  unfold sU
  generalize (A.natAbs : Int) / (B.natAbs : Int) = q at *
  generalize (A.natAbs : Int) % (B.natAbs : Int) = r at *
  by_cases hA : A < 0
  · by_cases hb : B < 0
    · simp [hA, hb]
      have e : (B.natAbs : Int) = -B := by omega
      rw [e, Int.neg_mul, Int.mul_comm] at h1
      omega
    · simp [hA, hb]
      have e : (B.natAbs : Int) = B := by omega
      rw [e, Int.mul_comm] at h1
      rw [Int.neg_mul]
      omega
  · by_cases hb : B < 0
    · simp [hA, hb]
      have e : (B.natAbs : Int) = -B := by omega
      rw [e, Int.neg_mul, Int.mul_comm] at h1
      rw [Int.neg_mul]
      omega
    · simp [hA, hb]
      have e : (B.natAbs : Int) = B := by omega
      rw [e, Int.mul_comm] at h1
      omega
/-- A quotient and a rest that are told. -/
structure QR2 (da db : BD) (d : QD) (A B Q R : Int) : Prop where
  fa : Fm da A
  fb : Fm db B
  nz : B ≠ 0
  fq : Fm d.num Q
  fr : Fm d.den R
  sum : Q * B + R = A
  small : R.natAbs < B.natAbs
  part : (Q * B).natAbs ≤ A.natAbs
  sign : R ≠ 0 → (R < 0 ↔ A < 0)
theorem two_of {da db : BD} {d : QD} (h : AnsD (pD da db) (qD da db) (rD da db) d true) : ∃ A B Q R, QR2 da db d A B Q R := by
  have hP := ansD_yes2 h
  obtain ⟨_, h1, h2⟩ := ansD_fm h hP
  unfold pD at hP
  simp only [Bool.and_eq_true, decide_eq_true_eq] at hP
  obtain ⟨⟨g1, g2⟩, g3⟩ := hP
  have fa := Fm.of g1
  have fb := Fm.of g2
  have hB : sv db.g db.xs ≠ 0 := fun e => g3 (fb.zero.2 e)
  generalize sv da.g da.xs = A at *
  generalize sv db.g db.xs = B at *
  have eq : qD da db = sU (!(decide (A < 0) == decide (B < 0))) ((A.natAbs : Int) / (B.natAbs : Int)) := by unfold qD; rw [fa.val, fb.val, fa.sg, fb.sg]
  have er : rD da db = sU (decide (A < 0)) ((A.natAbs : Int) % (B.natAbs : Int)) := by unfold rD; rw [fa.val, fb.val, fa.sg]
  rw [eq] at h1
  rw [er] at h2
  have hs := qr_sum A B hB
  have m0 := Int.emod_nonneg (A.natAbs : Int) (show (B.natAbs : Int) ≠ 0 by omega)
  have m1 := Int.emod_lt_of_pos (A.natAbs : Int) (show (0 : Int) < (B.natAbs : Int) by omega)
  have q0 : 0 ≤ (A.natAbs : Int) / (B.natAbs : Int) := Int.ediv_nonneg (by omega) (by omega)
  have q1 := Int.mul_ediv_add_emod (A.natAbs : Int) (B.natAbs : Int)
  refine ⟨A, B, _, _, fa, fb, hB, h1, h2, hs, ?_, ?_, ?_⟩
  · have := @sU_abs (decide (A < 0)) _ m0
    omega
  · have e := @sU_abs (!(decide (A < 0) == decide (B < 0))) _ q0
    rw [Int.natAbs_mul]
    have : ((((sU (!(decide (A < 0) == decide (B < 0))) ((A.natAbs : Int) / (B.natAbs : Int))).natAbs * B.natAbs : Nat)) : Int) ≤ (A.natAbs : Int) := by rw [Int.natCast_mul, e, Int.mul_comm]; omega
    omega
  · intro h0
    generalize (A.natAbs : Int) % (B.natAbs : Int) = r at h0 m0 ⊢
    by_cases hA : A < 0
    · have e : sU (decide (A < 0)) r = -r := by unfold sU; simp [hA]
      rw [e] at h0 ⊢
      exact ⟨fun _ => hA, fun _ => by omega⟩
    · have e : sU (decide (A < 0)) r = r := by unfold sU; simp [hA]
      rw [e] at h0 ⊢
      exact ⟨fun _ => by omega, fun h => absurd h hA⟩
theorem pd_two {da db : BD} {d : QD} (h : AnsD (pD da db) (qD da db) (rD da db) d true) {dm ds : BD} {okm oks : Bool} (k : Ans (goodB d.num.g d.num.xs && goodB db.g db.xs) (sv d.num.g d.num.xs * sv db.g db.xs) dm.g dm.xs okm) (l : Ans (goodB dm.g dm.xs && goodB d.den.g d.den.xs) (sv dm.g dm.xs + sv d.den.g d.den.xs) ds.g ds.xs oks) : okm = true ∧ oks = true ∧ ds = da := by
  obtain ⟨A, B, Q, R, t⟩ := two_of h
  rw [t.fq.sve, t.fb.sve] at k
  obtain ⟨k1, fm⟩ := ans_le k (by rw [t.fq.good, t.fb.good]; rfl) t.fa t.part
  rw [fm.sve, t.fr.sve, t.sum] at l
  obtain ⟨l1, l2⟩ := ans_fits l (by rw [fm.good, t.fr.good]; rfl) t.fa
  exact ⟨k1, l1, l2⟩
theorem Fm.abs {d : BD} {V : Int} (h : Fm d V) : Fm ⟨false, d.xs⟩ (V.natAbs : Int) := ⟨(decide_eq_false (by omega)).symm, by rw [Int.natAbs_natCast]; exact h.nm, h.len⟩
theorem pd_cmp {da db : BD} {d : QD} (h : AnsD (pD da db) (qD da db) (rD da db) d true) : cmpOk false d.den.xs false db.xs = true ∧ cmpV false d.den.xs false db.xs < 0 := by
  obtain ⟨A, B, Q, R, t⟩ := two_of h
  have e : cmpOk false d.den.xs false db.xs = true := by
    unfold cmpOk
    have h1 : goodB false d.den.xs = true := t.fr.abs.good
    have h2 : goodB false db.xs = true := t.fb.abs.good
    rw [h1, h2]; rfl
  refine ⟨e, ?_⟩
  unfold cmpV
  rw [if_pos e]
  unfold cmpB
  rw [if_pos rfl, if_neg (by simp)]
  refine (cmpL_val t.fr.nm.ok t.fb.nm.ok t.fr.nm.tr t.fb.nm.tr).1.2 ?_
  rw [t.fr.val, t.fb.val]
  have := t.small
  omega
theorem pd_sign {da db : BD} {d : QD} (h : AnsD (pD da db) (qD da db) (rD da db) d true) (h0 : d.den.xs.length ≠ 0) : d.den.g = da.g := by
  obtain ⟨A, B, Q, R, t⟩ := two_of h
  have hR : R ≠ 0 := fun e => h0 (t.fr.zero.2 e)
  rw [t.fr.sg, t.fa.sg]
  have := t.sign hR
  simp only [this]
theorem pd_gcd1 {da dg : BD} {G : Int} (ha : goodB da.g da.xs = true) (hg : Fm dg G) (hG : G ≠ 0) (hd : (sv da.g da.xs).natAbs % G.natAbs = 0) {d : QD} {ok : Bool} (k : AnsD (pD da dg) (qD da dg) (rD da dg) d ok) : ok = true ∧ d.den.xs.length = 0 := by
  have fa := Fm.of ha
  obtain ⟨q1, q2, q3⟩ := ansD_fm k (pD_of fa hg hG)
  refine ⟨q1, q3.zero.2 ?_⟩
  unfold rD
  rw [fa.val, hg.val]
  have e : (((sv da.g da.xs).natAbs : Int)) % (G.natAbs : Int) = 0 := by rw [← Int.natCast_emod, hd]; rfl
  rw [e]
  unfold sU
  split <;> rfl
theorem pd_gcd {da db dg : BD} (h : Ans (goodB da.g da.xs && goodB db.g db.xs) ((Nat.gcd (val da.xs).toNat (val db.xs).toNat : Nat) : Int) dg.g dg.xs true) (h0 : dg.xs.length ≠ 0) {d d' : QD} {ok ok' : Bool} (k : AnsD (pD da dg) (qD da dg) (rD da dg) d ok) (k' : AnsD (pD db dg) (qD db dg) (rD db dg) d' ok') : (ok = true ∧ d.den.xs.length = 0) ∧ (ok' = true ∧ d'.den.xs.length = 0) ∧ dg.g = false := by
  obtain ⟨hP, hg⟩ := ans_yes h
  have hh := (Bool.and_eq_true _ _).mp hP
  have hG : ((Nat.gcd (val da.xs).toNat (val db.xs).toNat : Nat) : Int) ≠ 0 := fun e => h0 (hg.zero.2 e)
  refine ⟨pd_gcd1 hh.1 hg hG ?_ k, pd_gcd1 hh.2 hg hG ?_ k', ?_⟩
  · have e := (Fm.of hh.1).val
    rw [Int.natAbs_natCast, e, Int.toNat_natCast]
    exact Nat.mod_eq_zero_of_dvd (Nat.gcd_dvd_left _ _)
  · have e := (Fm.of hh.2).val
    rw [Int.natAbs_natCast, e, Int.toNat_natCast]
    exact Nat.mod_eq_zero_of_dvd (Nat.gcd_dvd_right _ _)
  · rw [hg.sg]
    exact decide_eq_false (by omega)
end Go.Proofs.Ytagnhgefdcckoaa
namespace Go.Proofs.Ytagnhgefdcckoaa
open Go.RowKit
set_option linter.unusedVariables false
set_option maxRecDepth 100000
set_option linter.unusedSimpArgs false

/-- A variable's box that holds a number. -/
structure BxN (w : World) (G : Nat) (b : BV) : Prop where
  c0 : w.cell? ⟨G, 0, none⟩ = some (.bool b.g)
  c1 : w.cell? ⟨G, 1, none⟩ = some (.slice b.a b.n b.c)
theorem BxN.later {w w' : World} {G : Nat} {b : BV} (h : BxN w G b) (hb : Below w.heap.size w w') : BxN w' G b := ⟨cell_later hb h.c0, cell_later hb h.c1⟩
theorem BxN.new {w : World} {b : BV} {t : TypeId} : BxN (w.alloc (.cells #[.bool b.g, .slice b.a b.n b.c] t)) w.heap.size b := ⟨by simp [go_sem], by simp [go_sem]⟩
theorem BxN.new2 {w : World} {b : BV} {t : TypeId} {o : Obj} : BxN ((w.alloc o).alloc (.cells #[.bool b.g, .slice b.a b.n b.c] t)) (w.heap.size + 1) b := ⟨by simp [go_sem], by simp [go_sem]⟩
def OutRe (w : World) (P : Bool) (V : Int) (e : Ending) (w' : World) : Prop := ∃ (b : BV) (d : BD) (ok : Bool), e = .returned (.tuple #[.agg #[.bool b.g, .slice b.a b.n b.c], .bool ok]) ∧ Below w.heap.size w w' ∧ AllAr w' [(b, d)] ∧ Ans P V d.g d.xs ok
theorem OutA.toRe {w : World} {P : Bool} {V : Int} (e : Ending) (w' : World) (h : OutA w P V e w') : OutRe w P V e w' := by
  obtain ⟨gr, a, n, c, zs, ok, he, hb, ho, ha, hans⟩ := h
  exact ⟨⟨gr, a, n, c⟩, ⟨gr, zs⟩, ok, he, hb, AllAr.cons ⟨rfl, ha⟩ (AllAr.nil _), hans⟩
section
variable (b b' : BV) (d d' : BD) (w : World) (h : AllAr w [(b, d)]) (h' : AllAr w [(b', d')])
include h h'
theorem mulR_I : Calls Try.prog 8 #[.agg #[.bool b.g, .slice b.a b.n b.c], .agg #[.bool b'.g, .slice b'.a b'.n b'.c]] w (OutRe w (goodB d.g d.xs && goodB d'.g d'.xs) (sv d.g d.xs * sv d'.g d'.xs)) := by
  have k := (MulI_any b.g b'.g b.a b'.a b.n b'.n b.c b'.c d.xs d'.xs w h.head.ar h'.head.ar).mono OutA.toRe
  rw [h.head.sg, h'.head.sg] at k
  rw [h.head.sg, h'.head.sg]
  exact k
theorem mulR_S : Calls Try.prog 9 #[.agg #[.bool b.g, .slice b.a b.n b.c], .agg #[.bool b'.g, .slice b'.a b'.n b'.c]] w (OutRe w (goodB d.g d.xs && goodB d'.g d'.xs) (sv d.g d.xs * sv d'.g d'.xs)) := by
  have k := (MulS_any b.g b'.g b.a b'.a b.n b'.n b.c b'.c d.xs d'.xs w h.head.ar h'.head.ar).mono OutA.toRe
  rw [h.head.sg, h'.head.sg] at k
  rw [h.head.sg, h'.head.sg]
  exact k
theorem halR_I : Calls Try.prog 10 #[.agg #[.bool b.g, .slice b.a b.n b.c], .agg #[.bool b'.g, .slice b'.a b'.n b'.c]] w (OutRe w (goodB d.g d.xs && goodB d'.g d'.xs) (sv d.g d.xs * sv d'.g d'.xs)) := by
  have k := (HalvesI_any b.g b'.g b.a b'.a b.n b'.n b.c b'.c d.xs d'.xs w h.head.ar h'.head.ar).mono OutA.toRe
  rw [h.head.sg, h'.head.sg] at k
  rw [h.head.sg, h'.head.sg]
  exact k
theorem halR_S : Calls Try.prog 11 #[.agg #[.bool b.g, .slice b.a b.n b.c], .agg #[.bool b'.g, .slice b'.a b'.n b'.c]] w (OutRe w (goodB d.g d.xs && goodB d'.g d'.xs) (sv d.g d.xs * sv d'.g d'.xs)) := by
  have k := (HalvesS_any b.g b'.g b.a b'.a b.n b'.n b.c b'.c d.xs d'.xs w h.head.ar h'.head.ar).mono OutA.toRe
  rw [h.head.sg, h'.head.sg] at k
  rw [h.head.sg, h'.head.sg]
  exact k
theorem gcdR_I : Calls Try.prog 14 #[.agg #[.bool b.g, .slice b.a b.n b.c], .agg #[.bool b'.g, .slice b'.a b'.n b'.c]] w (OutRe w (goodB d.g d.xs && goodB d'.g d'.xs) ((Nat.gcd (val d.xs).toNat (val d'.xs).toNat : Nat) : Int)) := by
  have k := (GcdI_any b.g b'.g b.a b'.a b.n b'.n b.c b'.c d.xs d'.xs w h.head.ar h'.head.ar).mono OutA.toRe
  rw [h.head.sg, h'.head.sg] at k
  rw [h.head.sg, h'.head.sg]
  exact k
theorem gcdR_S : Calls Try.prog 15 #[.agg #[.bool b.g, .slice b.a b.n b.c], .agg #[.bool b'.g, .slice b'.a b'.n b'.c]] w (OutRe w (goodB d.g d.xs && goodB d'.g d'.xs) ((Nat.gcd (val d.xs).toNat (val d'.xs).toNat : Nat) : Int)) := by
  have k := (GcdS_any b.g b'.g b.a b'.a b.n b'.n b.c b'.c d.xs d'.xs w h.head.ar h'.head.ar).mono OutA.toRe
  rw [h.head.sg, h'.head.sg] at k
  rw [h.head.sg, h'.head.sg]
  exact k
theorem addR_I : Calls Try.prog 18 #[.agg #[.bool b.g, .slice b.a b.n b.c], .agg #[.bool b'.g, .slice b'.a b'.n b'.c]] w (OutRe w (goodB d.g d.xs && goodB d'.g d'.xs) (sv d.g d.xs + sv d'.g d'.xs)) := by
  have k := (AddI_any b.g b'.g b.a b'.a b.n b'.n b.c b'.c d.xs d'.xs w h.head.ar h'.head.ar).mono OutA.toRe
  rw [h.head.sg, h'.head.sg] at k
  rw [h.head.sg, h'.head.sg]
  exact k
end
theorem cmpR_lt (b b' : BV) (d d' : BD) (w : World) (h : AllAr w [(b, d)]) (h' : AllAr w [(b', d')]) (hl : d.xs.length ≤ 1048576) (hl' : d'.xs.length ≤ 1048576) (hc : cmpOk false d.xs false d'.xs = true ∧ cmpV false d.xs false d'.xs < 0) :
    Calls Try.prog 19 #[.agg #[.bool false, .slice b.a b.n b.c], .agg #[.bool false, .slice b'.a b'.n b'.c]] w fun e w' => ∃ k : Int, e = .returned (.tuple #[.int .i64 k, .bool true]) ∧ Below w.heap.size w w' ∧ k < 0 := by
  refine (CompareI_any false false b.a b'.a b.n b'.n b.c b'.c d.xs d'.xs w h.head.ar.sl h'.head.ar.sl h.head.ar.len h'.head.ar.len (by have := h.head.ar.len; unfold maxLen; omega) (by have := h'.head.ar.len; unfold maxLen; omega)).mono ?_
  rintro e w1 ⟨rfl, hb⟩
  rw [hc.1]
  exact ⟨_, rfl, hb, hc.2⟩
theorem intR_I (b : BV) (d : BD) (w : World) (h : AllAr w [(b, d)]) (hl : d.xs.length ≤ 1048576) :
    Calls Try.prog 21 #[.agg #[.bool b.g, .slice b.a b.n b.c]] w fun e w' => e = .returned (.tuple #[.int .i64 (intV d.g d.xs), .bool (intOk d.g d.xs)]) ∧ Below w.heap.size w w' := by
  have k := intI_any b.g b.a b.n b.c d.xs w h.head.ar (by have := h.head.ar.len; omega)
  rw [h.head.sg] at k
  rw [h.head.sg]
  exact k
theorem intR_S (b : BV) (d : BD) (w : World) (h : AllAr w [(b, d)]) (hl : d.xs.length ≤ 1048576) :
    Calls Try.prog 22 #[.agg #[.bool b.g, .slice b.a b.n b.c]] w fun e w' => e = .returned (.tuple #[.int .i64 (intV d.g d.xs), .bool (intOk d.g d.xs)]) ∧ Below w.heap.size w w' := by
  have k := intS_any b.g b.a b.n b.c d.xs w h.head.ar (by have := h.head.ar.len; omega)
  rw [h.head.sg] at k
  rw [h.head.sg]
  exact k
theorem Ans.sameD {P : Bool} {V : Int} {d d' : BD} {ok ok' : Bool} (h : Ans P V d.g d.xs ok) (k : Ans P V d'.g d'.xs ok') : d = d' ∧ ok = ok' := by
  obtain ⟨e1, e2, e3⟩ := h.same k
  obtain ⟨g, xs⟩ := d
  obtain ⟨g', xs'⟩ := d'
  simp only at e1 e2
  exact ⟨by rw [e1, e2], e3⟩
theorem AllAr.n_len {w : World} {b : BV} {d : BD} (h : AllAr w [(b, d)]) : d.xs.length = b.n := h.head.ar.len
end Go.Proofs.Ytagnhgefdcckoaa

/- The specification's l2Make: a fraction in lowest terms. No condition beyond those typed. Written by mklow2.py. -/
import Derived.Test.YthmpikagenodjaaBI
import Derived.Test.YthmpikagenodjaaVarQ
import Derived.Test.YthmpikagenodjaaFlat
import Derived.Test.YthmpikagenodjaaDivJ
import Derived.Test.YthmpikagenodjaaDivI
namespace Go.Proofs.Ythmpikagenodjaa
open Go.RowKit
set_option linter.unusedVariables false
set_option maxRecDepth 100000
set_option linter.unusedSimpArgs false

theorem Own2.take {lo hi : Nat} {w : World} {a : Option Addr} {zs : List Int} (h : Own2 lo hi w a zs) (k : Nat) : Own2 lo hi w a (zs.take k) := by
  rcases h with rfl | ⟨b, cur, rfl, h1, h2, hg, hc⟩
  · exact .inl (by simp)
  · refine .inr ⟨b, cur, rfl, h1, h2, hg, fun i hi => ?_⟩
    rw [List.length_take] at hi
    rw [hc i (by omega)]
    simp only [List.getD_eq_getElem?_getD, List.getElem?_take]
    rw [if_pos (by omega)]
/-- The number with a sign: g and U. -/
def sU (g : Bool) (U : Int) : Int := if g then -U else U
theorem sU_abs {g : Bool} {U : Int} (h : 0 ≤ U) : ((sU g U).natAbs : Int) = U := natAbs_sign h rfl
/-- Fractions by value. -/
def IsQ (w : World) (q : QV) (N D : Int) : Prop := IsB w q.num N ∧ IsB w q.den D
theorem IsQ.later {w w' : World} {q : QV} {N D : Int} (h : IsQ w q N D) (hb : Below w.heap.size w w') : IsQ w' q N D := ⟨h.1.later hb, h.2.later hb⟩
theorem IsQ.drew {w : World} {q : QV} {N D : Int} (h : IsQ w q N D) : IsQ w.drew q N D := h.later (Below.refl _ _).drew
def QD.of (N D : Int) (xs us : List Int) : QD := ⟨⟨decide (N < 0), xs⟩, ⟨decide (D < 0), us⟩⟩
/-- A call answers the fraction N / D in memory of its own. -/
def OutQ (w : World) (N D : Int) (e : Ending) (w' : World) : Prop :=
  ∃ (q : QV) (xs us : List Int), e = .returned (.agg #[.bool q.num.g, .slice q.num.a q.num.n q.num.c, .bool q.den.g, .slice q.den.a q.den.n q.den.c]) ∧ Below w.heap.size w w' ∧
    AllOwn w.heap.size w'.heap.size w' [(q.num, ⟨decide (N < 0), xs⟩), (q.den, ⟨decide (D < 0), us⟩)] ∧ AllAr w' [(q.num, ⟨decide (N < 0), xs⟩), (q.den, ⟨decide (D < 0), us⟩)] ∧ Nm xs N.natAbs ∧ Nm us D.natAbs
/-- b is the number V, its limbs at blocks from lo to below hi. -/
def Ow (lo hi : Nat) (w : World) (b : BV) (V : Int) : Prop := ∃ xs, AllOwn lo hi w [(b, ⟨decide (V < 0), xs⟩)] ∧ AllAr w [(b, ⟨decide (V < 0), xs⟩)] ∧ Nm xs V.natAbs
theorem Ow.later {lo hi : Nat} {w w' : World} {b : BV} {V : Int} (h : Ow lo hi w b V) (hb : Below w.heap.size w w') : Ow lo hi w' b V := by
  obtain ⟨xs, h1, h2, h3⟩ := h
  exact ⟨xs, h1.later hb, h2.later hb, h3⟩
theorem Ow.is {lo hi : Nat} {w : World} {b : BV} {V : Int} (h : Ow lo hi w b V) : IsB w b V := by
  obtain ⟨xs, h1, h2, h3⟩ := h
  exact ⟨xs, h2.head, h3⟩
theorem Ow.wide {lo hi lo' hi' : Nat} {w : World} {b : BV} {V : Int} (h : Ow lo hi w b V) (h1 : lo' ≤ lo) (h2 : hi ≤ hi') : Ow lo' hi' w b V := by
  obtain ⟨xs, k1, k2, k3⟩ := h
  exact ⟨xs, k1.wide h1 h2, k2, k3⟩
theorem Ow.but {lo hi lo' hi' : Nat} {w w' : World} {b : BV} {V : Int} (h : Ow lo hi w b V) (bt : But lo' hi' w w') (hd : hi ≤ lo' ∨ hi' ≤ lo) : Ow lo hi w' b V := by
  obtain ⟨xs, k1, k2, k3⟩ := h
  have o := k1.but bt hd
  exact ⟨xs, o, fun p hp => ⟨(k2 p hp).sg, ⟨(o.sl p hp).sl, (k2 p hp).ar.len, (k2 p hp).ar.cap, (k2 p hp).ar.top, (k2 p hp).ar.addr⟩⟩, k3⟩
theorem Ow.two {lo mid hi : Nat} {w : World} {b b' : BV} {V V' : Int} (h : Ow lo mid w b V) (k : Ow mid hi w b' V') (h1 : lo ≤ mid) (h2 : mid ≤ hi) :
    ∃ xs us, AllOwn lo hi w [(b, ⟨decide (V < 0), xs⟩), (b', ⟨decide (V' < 0), us⟩)] ∧ AllAr w [(b, ⟨decide (V < 0), xs⟩), (b', ⟨decide (V' < 0), us⟩)] ∧ Nm xs V.natAbs ∧ Nm us V'.natAbs := by
  obtain ⟨xs, k1, k2, k3⟩ := h
  obtain ⟨us, m1, m2, m3⟩ := k
  exact ⟨xs, us, k1.join m1 h1 h2, k2.append m2, k3, m3⟩
theorem isQ_of {w : World} {q : QV} {N D : Int} {xs us : List Int} (h : AllAr w [(q.num, ⟨decide (N < 0), xs⟩), (q.den, ⟨decide (D < 0), us⟩)]) (h1 : Nm xs N.natAbs) (h2 : Nm us D.natAbs) : IsQ w q N D :=
  ⟨⟨xs, h.head, h1⟩, ⟨us, h.tail.head, h2⟩⟩
theorem outN_ow {w' : World} {b : BV} {V : Int} {xs : List Int} {lo hi : Nat} (ho : AllOwn lo hi w' [(b, ⟨decide (V < 0), xs⟩)]) (ha : AllAr w' [(b, ⟨decide (V < 0), xs⟩)]) (hn : Nm xs V.natAbs) : Ow lo hi w' b V := ⟨xs, ho, ha, hn⟩
/-- What a call's own box is written with at the end turns nothing else. -/
theorem own_fin {lo hi R : Nat} {wN W : World} {l : List (BV × BD)} (bt : But R (R + 1) wN W) (ho : AllOwn lo hi wN l) (hR : R + 1 ≤ lo) : AllOwn lo hi W l := ho.but bt (.inr hR)
theorem ar_fin {lo hi R : Nat} {wN W : World} {l : List (BV × BD)} (bt : But R (R + 1) wN W) (ho : AllOwn lo hi wN l) (ha : AllAr wN l) (hR : R + 1 ≤ lo) : AllAr W l := fun p hp =>
  ⟨(ha p hp).sg, ⟨((own_fin bt ho hR).sl p hp).sl, (ha p hp).ar.len, (ha p hp).ar.cap, (ha p hp).ar.top, (ha p hp).ar.addr⟩⟩
theorem outQ_fin {w wN W : World} {R : Nat} {q : QV} {xs us : List Int} {N D : Int} (hR : w.heap.size ≤ R) (hb : Below w.heap.size w wN) (bt : But R (R + 1) wN W)
    (ho : AllOwn (R + 1) wN.heap.size wN [(q.num, ⟨decide (N < 0), xs⟩), (q.den, ⟨decide (D < 0), us⟩)]) (ha : AllAr wN [(q.num, ⟨decide (N < 0), xs⟩), (q.den, ⟨decide (D < 0), us⟩)]) (h1 : Nm xs N.natAbs) (h2 : Nm us D.natAbs) :
    OutQ w N D (.returned (.agg #[.bool q.num.g, .slice q.num.a q.num.n q.num.c, .bool q.den.g, .slice q.den.a q.den.n q.den.c])) W :=
  ⟨q, xs, us, rfl, bt.below hb hR hb.size, (own_fin bt ho (Nat.le_refl _)).wide (by omega) bt.size, ar_fin bt ho ha (Nat.le_refl _), h1, h2⟩

/-- In lowest terms. -/
def lowU (N D : Int) : Int := (N.natAbs : Int) / (Nat.gcd N.natAbs D.natAbs : Int)
def lowN (N D : Int) : Int := sU (!(decide (N < 0) == decide (D < 0))) (lowU N D)
def lowD (N D : Int) : Int := (D.natAbs : Int) / (Nat.gcd N.natAbs D.natAbs : Int)
theorem lowU_nonneg (N D : Int) : 0 ≤ lowU N D := Int.ediv_nonneg (by omega) (by omega)
theorem lowD_nonneg (N D : Int) : 0 ≤ lowD N D := Int.ediv_nonneg (by omega) (by omega)
theorem lowN_abs (N D : Int) : ((lowN N D).natAbs : Int) = lowU N D := sU_abs (lowU_nonneg N D)
theorem lowD_abs (N D : Int) : ((lowD N D).natAbs : Int) = lowD N D := by have := lowD_nonneg N D; omega
theorem lowU_le (N D : Int) : lowU N D ≤ N.natAbs := Int.ediv_le_self _ (by omega)
theorem lowD_le (N D : Int) : lowD N D ≤ D.natAbs := Int.ediv_le_self _ (by omega)
theorem lowN_bd {N D : Int} {L : Nat} (h : Bd N L) : Bd (lowN N D) L := h.le (by have := lowN_abs N D; have := lowU_le N D; omega)
theorem lowD_bd {N D : Int} {L : Nat} (h : Bd D L) : Bd (lowD N D) L := h.le (by have := lowD_abs N D; have := lowD_le N D; omega)
theorem gcd_pos_right {N D : Int} (h : D ≠ 0) : 0 < Nat.gcd N.natAbs D.natAbs := Nat.gcd_pos_of_pos_right _ (by omega)
theorem lowD_pos {N D : Int} (h : D ≠ 0) : 0 < lowD N D := by
  have hg := gcd_pos_right (N := N) h
  have hd : Nat.gcd N.natAbs D.natAbs ≤ D.natAbs := Nat.le_of_dvd (by omega) (Nat.gcd_dvd_right _ _)
  have : 1 ≤ (D.natAbs : Int) / (Nat.gcd N.natAbs D.natAbs : Int) := Int.le_ediv_of_mul_le (by omega) (by omega)
  unfold lowD; omega
end Go.Proofs.Ythmpikagenodjaa
namespace Go.Proofs.Ythmpikagenodjaa
open Go.RowKit
set_option linter.unusedVariables false
set_option maxRecDepth 100000
set_option linter.unusedSimpArgs false

/-- A variable of the law's own: its box at block G, what it leads to at blocks from lo to below hi. -/
structure VarB (wx : World) (G lo hi : Nat) (v : BV) (d : BD) : Prop where
  c0 : wx.cell? ⟨G, 0, none⟩ = some (.bool v.g)
  c1 : wx.cell? ⟨G, 1, none⟩ = some (.slice v.a v.n v.c)
  own : AllOwn lo hi wx [(v, d)]
theorem VarB.later {wx wy : World} {G lo hi : Nat} {v : BV} {d : BD} (h : VarB wx G lo hi v d) (hb : Below wx.heap.size wx wy) : VarB wy G lo hi v d :=
  ⟨cell_later hb h.c0, cell_later hb h.c1, h.own.later hb⟩
theorem VarB.but {wx wy : World} {G lo hi lo' hi' : Nat} {v : BV} {d : BD} (h : VarB wx G lo hi v d) (hb : But lo' hi' wx wy) (hG : G < lo' ∨ hi' ≤ G) (hd : hi ≤ lo' ∨ hi' ≤ lo) : VarB wy G lo hi v d :=
  ⟨hb.cell h.c0 hG, hb.cell h.c1 hG, h.own.but hb hd⟩
theorem VarB.mark {wx wy : World} {G lo hi : Nat} {v : BV} {d d' : BD} (h : VarB wx G lo hi v d) (hb : But lo hi wx wy) (hG : G < lo ∨ hi ≤ G) (ho : AllOwn lo hi wy [(v, d')]) : VarB wy G lo hi v d' :=
  ⟨hb.cell h.c0 hG, hb.cell h.c1 hG, ho⟩
theorem VarB.low {wx : World} {G lo hi lo' : Nat} {v : BV} {d : BD} (h : VarB wx G lo hi v d) (hl : lo' ≤ lo) : VarB wx G lo' hi v d := ⟨h.c0, h.c1, h.own.wide hl (Nat.le_refl _)⟩
theorem VarB.start {wx : World} {lo : Nat} {v : BV} {d : BD} (t : TypeId) (h : AllOwn lo wx.heap.size wx [(v, d)]) : VarB (wx.alloc (.cells #[.bool v.g, .slice v.a v.n v.c] t)) wx.heap.size lo wx.heap.size v d :=
  ⟨by simp [go_sem], by simp [go_sem], h.later ((Below.refl _ _).alloc (Nat.le_refl _) _)⟩
theorem VarB.gt {wx : World} {G lo hi : Nat} {v : BV} {d : BD} (h : VarB wx G lo hi v d) : G < wx.heap.size := World.block_lt_of_cell? _ _ h.c0
end Go.Proofs.Ythmpikagenodjaa
namespace Go.Proofs.Ythmpikagenodjaa
open Go.RowKit
set_option linter.unusedVariables false
set_option maxRecDepth 100000
set_option linter.unusedSimpArgs false

theorem cd_other {w : World} {b o : Nat} {x : Value} (h : w.cell? ⟨b, o, none⟩ = some x) : w.drew.cell? ⟨b, o, none⟩ = some x := cell_later (Below.refl _ _).drew h
end Go.Proofs.Ythmpikagenodjaa
namespace Go.Proofs.Ythmpikagenodjaa
open Go.RowKit
set_option linter.unusedVariables false
set_option maxRecDepth 100000
set_option linter.unusedSimpArgs false

theorem low_neg {N D : Int} (h : D < 0) : -(sU (decide (N < 0)) (lowU N D)) = lowN N D ∧ -(sU (decide (D < 0)) (lowD N D)) = lowD N D := by
  unfold lowN sU
  rw [decide_eq_true h]
  refine ⟨?_, by simp⟩
  cases decide (N < 0) <;> simp
theorem low_pos {N D : Int} (h : 0 ≤ D) : sU (decide (N < 0)) (lowU N D) = lowN N D ∧ sU (decide (D < 0)) (lowD N D) = lowD N D := by
  unfold lowN sU
  rw [decide_eq_false (show ¬ D < 0 by omega)]
  refine ⟨?_, by simp⟩
  cases decide (N < 0) <;> simp
end Go.Proofs.Ythmpikagenodjaa

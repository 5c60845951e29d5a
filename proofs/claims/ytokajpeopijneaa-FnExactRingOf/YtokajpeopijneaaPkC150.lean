/- ReverseCurve: the program's and the specification's, at every list of points. No condition beyond those typed. Written by mkrv12.py. -/
import Derived.Test.YtokajpeopijneaaRatF
import Derived.Test.YtokajpeopijneaaFlatS
import Derived.Test.YtokajpeopijneaaMake2
import Derived.Test.YtokajpeopijneaaLow
import Derived.Test.YtokajpeopijneaaFlatQ
import Derived.Test.YtokajpeopijneaaFlat
import Derived.Deep.AppendLies
namespace Go.Proofs.Ytokajpeopijneaa
open Go.RowKit
set_option linter.unusedVariables false
set_option maxRecDepth 100000
set_option linter.unusedSimpArgs false

/-- -1, 0 or 1. -/
def cmpZ (A B : Int) : Int := if A < B then -1 else if B < A then 1 else 0
theorem cmpTop_range (xs ys : List Int) (k : Nat) : cmpTop xs ys k = -1 ∨ cmpTop xs ys k = 0 ∨ cmpTop xs ys k = 1 := by
  induction k with
  | zero => right; left; rfl
  | succ k ih =>
    unfold cmpTop
    split
    · left; rfl
    · split
      · right; right; rfl
      · exact ih
theorem cmpL_range (xs ys : List Int) : cmpL xs ys = -1 ∨ cmpL xs ys = 0 ∨ cmpL xs ys = 1 := by
  unfold cmpL
  split
  · left; rfl
  · split
    · right; right; rfl
    · exact cmpTop_range _ _ _
theorem cmpB_val {A B : Int} {ts us : List Int} (h : Nm ts A.natAbs) (k : Nm us B.natAbs) : cmpB (decide (A < 0)) ts (decide (B < 0)) us = cmpZ A B := by
  have h1 := cmpL_val h.ok k.ok h.tr k.tr
  have h2 := cmpL_val k.ok h.ok k.tr h.tr
  have r1 := cmpL_range ts us
  have r2 := cmpL_range us ts
  rw [h.v, k.v] at h1 h2
  unfold cmpB cmpZ
  by_cases a : A < 0 <;> by_cases b : B < 0
  · rw [decide_eq_true a, decide_eq_true b, if_pos rfl, if_pos rfl]
    split
    · omega
    · split <;> omega
  · rw [decide_eq_true a, decide_eq_false b, if_neg (by simp), if_pos rfl, if_pos (by omega)]
  · rw [decide_eq_false a, decide_eq_true b, if_neg (by simp), if_neg (by simp), if_neg (by omega), if_pos (by omega)]
  · rw [decide_eq_false a, decide_eq_false b, if_pos rfl, if_neg (by simp)]
    split
    · omega
    · split <;> omega
def gS (d : SD) : Bool := (gQ d.lo && gQ d.hi) && decide (nQ d.lo * dQ d.hi ≤ nQ d.hi * dQ d.lo)
theorem cmpZ_le (A B : Int) : decide (cmpZ A B ≤ 0) = decide (A ≤ B) := by
  unfold cmpZ
  split
  · exact decide_eq_decide.2 (by omega)
  · split <;> exact decide_eq_decide.2 (by omega)
theorem AllAr.lo {w : World} {v : SV} {d : SD} (h : AllAr w [(v.lo.num, d.lo.num), (v.lo.den, d.lo.den), (v.hi.num, d.hi.num), (v.hi.den, d.hi.den)]) : AllAr w [(v.lo.num, d.lo.num), (v.lo.den, d.lo.den)] := h.Sl
theorem AllAr.hi {w : World} {v : SV} {d : SD} (h : AllAr w [(v.lo.num, d.lo.num), (v.lo.den, d.lo.den), (v.hi.num, d.hi.num), (v.hi.den, d.hi.den)]) : AllAr w [(v.hi.num, d.hi.num), (v.hi.den, d.hi.den)] := h.Sr

structure IsGoodS (w : World) (v : SV) (d : SD) : Prop where
  lo : IsGood w v.lo d.lo
  hi : IsGood w v.hi d.hi
  le : nQ d.lo * dQ d.hi ≤ nQ d.hi * dQ d.lo
theorem isGoodS_of {w : World} {v : SV} {d : SD} (h : AllAr w [(v.lo.num, d.lo.num), (v.lo.den, d.lo.den), (v.hi.num, d.hi.num), (v.hi.den, d.hi.den)]) (hg : gS d = true) : IsGoodS w v d := by
  unfold gS at hg
  simp only [Bool.and_eq_true, decide_eq_true_eq] at hg
  exact ⟨isGood_of h.lo hg.1.1, isGood_of h.hi hg.1.2, hg.2⟩
theorem IsGoodS.later {w w' : World} {v : SV} {d : SD} (h : IsGoodS w v d) (hb : Below w.heap.size w w') : IsGoodS w' v d := ⟨h.lo.later hb, h.hi.later hb, h.le⟩

end Go.Proofs.Ytokajpeopijneaa
namespace Go.Proofs.Ytokajpeopijneaa
open Go.RowKit
set_option linter.unusedVariables false
set_option maxRecDepth 100000
set_option linter.unusedSimpArgs false

/-- A variable of the law's own: its box at block G, what it leads to at blocks from lo to below hi. -/
structure VarS (wx : World) (G lo hi : Nat) (v : SV) (d : SD) : Prop where
  c0 : wx.cell? ⟨G, 0, none⟩ = some (.bool v.lo.num.g)
  c1 : wx.cell? ⟨G, 1, none⟩ = some (.slice v.lo.num.a v.lo.num.n v.lo.num.c)
  c2 : wx.cell? ⟨G, 2, none⟩ = some (.bool v.lo.den.g)
  c3 : wx.cell? ⟨G, 3, none⟩ = some (.slice v.lo.den.a v.lo.den.n v.lo.den.c)
  c4 : wx.cell? ⟨G, 4, none⟩ = some (.bool v.hi.num.g)
  c5 : wx.cell? ⟨G, 5, none⟩ = some (.slice v.hi.num.a v.hi.num.n v.hi.num.c)
  c6 : wx.cell? ⟨G, 6, none⟩ = some (.bool v.hi.den.g)
  c7 : wx.cell? ⟨G, 7, none⟩ = some (.slice v.hi.den.a v.hi.den.n v.hi.den.c)
  own : AllOwn lo hi wx [(v.lo.num, d.lo.num), (v.lo.den, d.lo.den), (v.hi.num, d.hi.num), (v.hi.den, d.hi.den)]
theorem VarS.later {wx wy : World} {G lo hi : Nat} {v : SV} {d : SD} (h : VarS wx G lo hi v d) (hb : Below wx.heap.size wx wy) : VarS wy G lo hi v d :=
  ⟨cell_later hb h.c0, cell_later hb h.c1, cell_later hb h.c2, cell_later hb h.c3, cell_later hb h.c4, cell_later hb h.c5, cell_later hb h.c6, cell_later hb h.c7, h.own.later hb⟩
theorem VarS.but {wx wy : World} {G lo hi lo' hi' : Nat} {v : SV} {d : SD} (h : VarS wx G lo hi v d) (hb : But lo' hi' wx wy) (hG : G < lo' ∨ hi' ≤ G) (hd : hi ≤ lo' ∨ hi' ≤ lo) : VarS wy G lo hi v d :=
  ⟨hb.cell h.c0 hG, hb.cell h.c1 hG, hb.cell h.c2 hG, hb.cell h.c3 hG, hb.cell h.c4 hG, hb.cell h.c5 hG, hb.cell h.c6 hG, hb.cell h.c7 hG, h.own.but hb hd⟩
theorem VarS.mark {wx wy : World} {G lo hi : Nat} {v : SV} {d d' : SD} (h : VarS wx G lo hi v d) (hb : But lo hi wx wy) (hG : G < lo ∨ hi ≤ G) (ho : AllOwn lo hi wy [(v.lo.num, d'.lo.num), (v.lo.den, d'.lo.den), (v.hi.num, d'.hi.num), (v.hi.den, d'.hi.den)]) : VarS wy G lo hi v d' :=
  ⟨hb.cell h.c0 hG, hb.cell h.c1 hG, hb.cell h.c2 hG, hb.cell h.c3 hG, hb.cell h.c4 hG, hb.cell h.c5 hG, hb.cell h.c6 hG, hb.cell h.c7 hG, ho⟩
theorem VarS.low {wx : World} {G lo hi lo' : Nat} {v : SV} {d : SD} (h : VarS wx G lo hi v d) (hl : lo' ≤ lo) : VarS wx G lo' hi v d := ⟨h.c0, h.c1, h.c2, h.c3, h.c4, h.c5, h.c6, h.c7, h.own.wide hl (Nat.le_refl _)⟩
theorem VarS.start {wx : World} {lo : Nat} {v : SV} {d : SD} (t : TypeId) (h : AllOwn lo wx.heap.size wx [(v.lo.num, d.lo.num), (v.lo.den, d.lo.den), (v.hi.num, d.hi.num), (v.hi.den, d.hi.den)]) : VarS (wx.alloc (.cells #[.bool v.lo.num.g, .slice v.lo.num.a v.lo.num.n v.lo.num.c, .bool v.lo.den.g, .slice v.lo.den.a v.lo.den.n v.lo.den.c, .bool v.hi.num.g, .slice v.hi.num.a v.hi.num.n v.hi.num.c, .bool v.hi.den.g, .slice v.hi.den.a v.hi.den.n v.hi.den.c] t)) wx.heap.size lo wx.heap.size v d :=
  ⟨by simp [go_sem], by simp [go_sem], by simp [go_sem], by simp [go_sem], by simp [go_sem], by simp [go_sem], by simp [go_sem], by simp [go_sem], h.later ((Below.refl _ _).alloc (Nat.le_refl _) _)⟩
theorem VarS.gt {wx : World} {G lo hi : Nat} {v : SV} {d : SD} (h : VarS wx G lo hi v d) : G < wx.heap.size := World.block_lt_of_cell? _ _ h.c0
/-- An answer lies in its box. -/
structure MetS (wk wx : World) (G : Nat) (v : SV) (d : SD) : Prop where
  lo : wk.heap.size ≤ G
  hi : G < wx.heap.size
  var : VarS wx G wk.heap.size wx.heap.size v d
  bel : Below wk.heap.size wk wx
theorem metS_alloc {wk w5 : World} {v : SV} {d : SD} {B : Nat} (t : TypeId) (hk : Below wk.heap.size wk w5) (ho : AllOwn B w5.heap.size w5 [(v.lo.num, d.lo.num), (v.lo.den, d.lo.den), (v.hi.num, d.hi.num), (v.hi.den, d.hi.den)]) (hB : wk.heap.size ≤ B) :
    MetS wk (w5.alloc (.cells #[.bool v.lo.num.g, .slice v.lo.num.a v.lo.num.n v.lo.num.c, .bool v.lo.den.g, .slice v.lo.den.a v.lo.den.n v.lo.den.c, .bool v.hi.num.g, .slice v.hi.num.a v.hi.num.n v.hi.num.c, .bool v.hi.den.g, .slice v.hi.den.a v.hi.den.n v.hi.den.c] t)) w5.heap.size v d := by
  have hv := VarS.start t (ho.wide hB (Nat.le_refl _))
  exact ⟨hk.size, by simp, ⟨hv.c0, hv.c1, hv.c2, hv.c3, hv.c4, hv.c5, hv.c6, hv.c7, hv.own.wide (Nat.le_refl _) (by simp)⟩, hk.alloc hk.size _⟩
theorem metS_but {w5 : World} {v : SV} {G : Nat} : But G (G + 1) w5 ((((((((w5.setCell ⟨G, 0, none⟩ (.bool v.lo.num.g)).setCell ⟨G, 1, none⟩ (.slice v.lo.num.a v.lo.num.n v.lo.num.c)).setCell ⟨G, 2, none⟩ (.bool v.lo.den.g)).setCell ⟨G, 3, none⟩ (.slice v.lo.den.a v.lo.den.n v.lo.den.c)).setCell ⟨G, 4, none⟩ (.bool v.hi.num.g)).setCell ⟨G, 5, none⟩ (.slice v.hi.num.a v.hi.num.n v.hi.num.c)).setCell ⟨G, 6, none⟩ (.bool v.hi.den.g)).setCell ⟨G, 7, none⟩ (.slice v.hi.den.a v.hi.den.n v.hi.den.c)) := (((((((((But.refl _ _ _).set (p := ⟨G, 0, none⟩) (Nat.le_refl _) (Nat.lt_succ_self _) _).set (p := ⟨G, 1, none⟩) (Nat.le_refl _) (Nat.lt_succ_self _) _).set (p := ⟨G, 2, none⟩) (Nat.le_refl _) (Nat.lt_succ_self _) _).set (p := ⟨G, 3, none⟩) (Nat.le_refl _) (Nat.lt_succ_self _) _).set (p := ⟨G, 4, none⟩) (Nat.le_refl _) (Nat.lt_succ_self _) _).set (p := ⟨G, 5, none⟩) (Nat.le_refl _) (Nat.lt_succ_self _) _).set (p := ⟨G, 6, none⟩) (Nat.le_refl _) (Nat.lt_succ_self _) _).set (p := ⟨G, 7, none⟩) (Nat.le_refl _) (Nat.lt_succ_self _) _)
theorem metS_set {wk w5 : World} {v : SV} {d : SD} {B G : Nat} {z0 : Value} {z1 : Value} {z2 : Value} {z3 : Value} {z4 : Value} {z5 : Value} {z6 : Value} {z7 : Value} (hk : Below wk.heap.size wk w5) (ho : AllOwn B w5.heap.size w5 [(v.lo.num, d.lo.num), (v.lo.den, d.lo.den), (v.hi.num, d.hi.num), (v.hi.den, d.hi.den)]) (hG : wk.heap.size ≤ G) (hGB : G < B) (e0 : w5.cell? ⟨G, 0, none⟩ = some z0) (e1 : w5.cell? ⟨G, 1, none⟩ = some z1) (e2 : w5.cell? ⟨G, 2, none⟩ = some z2) (e3 : w5.cell? ⟨G, 3, none⟩ = some z3) (e4 : w5.cell? ⟨G, 4, none⟩ = some z4) (e5 : w5.cell? ⟨G, 5, none⟩ = some z5) (e6 : w5.cell? ⟨G, 6, none⟩ = some z6) (e7 : w5.cell? ⟨G, 7, none⟩ = some z7) :
    MetS wk ((((((((w5.setCell ⟨G, 0, none⟩ (.bool v.lo.num.g)).setCell ⟨G, 1, none⟩ (.slice v.lo.num.a v.lo.num.n v.lo.num.c)).setCell ⟨G, 2, none⟩ (.bool v.lo.den.g)).setCell ⟨G, 3, none⟩ (.slice v.lo.den.a v.lo.den.n v.lo.den.c)).setCell ⟨G, 4, none⟩ (.bool v.hi.num.g)).setCell ⟨G, 5, none⟩ (.slice v.hi.num.a v.hi.num.n v.hi.num.c)).setCell ⟨G, 6, none⟩ (.bool v.hi.den.g)).setCell ⟨G, 7, none⟩ (.slice v.hi.den.a v.hi.den.n v.hi.den.c)) G v d := by
  have hb := metS_but (w5 := w5) (v := v) (G := G)
  have hlt : G < w5.heap.size := World.block_lt_of_cell? _ _ e0
  refine ⟨hG, by have := hb.size; omega, ⟨?_, ?_, ?_, ?_, ?_, ?_, ?_, ?_, ?_⟩, hb.below hk hG hk.size⟩
  · simp [go_sem, e0, e1, e2, e3, e4, e5, e6, e7]
  · simp [go_sem, e0, e1, e2, e3, e4, e5, e6, e7]
  · simp [go_sem, e0, e1, e2, e3, e4, e5, e6, e7]
  · simp [go_sem, e0, e1, e2, e3, e4, e5, e6, e7]
  · simp [go_sem, e0, e1, e2, e3, e4, e5, e6, e7]
  · simp [go_sem, e0, e1, e2, e3, e4, e5, e6, e7]
  · simp [go_sem, e0, e1, e2, e3, e4, e5, e6, e7]
  · simp [go_sem, e0, e1, e2, e3, e4, e5, e6, e7]
  · exact (ho.but hb (.inr (by omega))).wide (by omega) hb.size
end Go.Proofs.Ytokajpeopijneaa
namespace Go.Proofs.Ytokajpeopijneaa
open Go.RowKit
set_option linter.unusedVariables false
set_option maxRecDepth 100000
set_option linter.unusedSimpArgs false

/-- A call answers the span from N / D to N' / D' in memory of its own. -/
def OutS (w : World) (N D N' D' : Int) (e : Ending) (w' : World) : Prop := ∃ (v : SV) (xs us ys vs : List Int), e = .returned (.agg #[.bool v.lo.num.g, .slice v.lo.num.a v.lo.num.n v.lo.num.c, .bool v.lo.den.g, .slice v.lo.den.a v.lo.den.n v.lo.den.c, .bool v.hi.num.g, .slice v.hi.num.a v.hi.num.n v.hi.num.c, .bool v.hi.den.g, .slice v.hi.den.a v.hi.den.n v.hi.den.c]) ∧ Below w.heap.size w w' ∧ AllOwn w.heap.size w'.heap.size w' [(v.lo.num, ⟨decide (N < 0), xs⟩), (v.lo.den, ⟨decide (D < 0), us⟩), (v.hi.num, ⟨decide (N' < 0), ys⟩), (v.hi.den, ⟨decide (D' < 0), vs⟩)] ∧ AllAr w' [(v.lo.num, ⟨decide (N < 0), xs⟩), (v.lo.den, ⟨decide (D < 0), us⟩), (v.hi.num, ⟨decide (N' < 0), ys⟩), (v.hi.den, ⟨decide (D' < 0), vs⟩)] ∧ Nm xs N.natAbs ∧ Nm us D.natAbs ∧ Nm ys N'.natAbs ∧ Nm vs D'.natAbs
theorem outS_fin {w wN W : World} {R : Nat} {v : SV} {xs us ys vs : List Int} {N D N' D' : Int} (hR : w.heap.size ≤ R) (hb : Below w.heap.size w wN) (bt : But R (R + 1) wN W) (ho : AllOwn (R + 1) wN.heap.size wN [(v.lo.num, ⟨decide (N < 0), xs⟩), (v.lo.den, ⟨decide (D < 0), us⟩), (v.hi.num, ⟨decide (N' < 0), ys⟩), (v.hi.den, ⟨decide (D' < 0), vs⟩)]) (ha : AllAr wN [(v.lo.num, ⟨decide (N < 0), xs⟩), (v.lo.den, ⟨decide (D < 0), us⟩), (v.hi.num, ⟨decide (N' < 0), ys⟩), (v.hi.den, ⟨decide (D' < 0), vs⟩)]) (h1 : Nm xs N.natAbs) (h2 : Nm us D.natAbs) (h3 : Nm ys N'.natAbs) (h4 : Nm vs D'.natAbs) : OutS w N D N' D' (.returned (.agg #[.bool v.lo.num.g, .slice v.lo.num.a v.lo.num.n v.lo.num.c, .bool v.lo.den.g, .slice v.lo.den.a v.lo.den.n v.lo.den.c, .bool v.hi.num.g, .slice v.hi.num.a v.hi.num.n v.hi.num.c, .bool v.hi.den.g, .slice v.hi.den.a v.hi.den.n v.hi.den.c])) W :=
  ⟨v, xs, us, ys, vs, rfl, bt.below hb hR hb.size, (own_fin bt ho (Nat.le_refl _)).wide (by omega) bt.size, ar_fin bt ho ha (Nat.le_refl _), h1, h2, h3, h4⟩
end Go.Proofs.Ytokajpeopijneaa
namespace Go.Proofs.Ytokajpeopijneaa
open Go.RowKit
set_option linter.unusedVariables false
set_option maxRecDepth 100000
set_option linter.unusedSimpArgs false

/-- Two variables' boxes that hold fractions. -/
structure Two4 (wk wx : World) (G1 G2 : Nat) (q1 q2 : QV) : Prop where
  lo1 : wk.heap.size ≤ G1
  lo2 : wk.heap.size ≤ G2
  ne : G1 ≠ G2
  hi1 : G1 < wx.heap.size
  hi2 : G2 < wx.heap.size
  a0 : wx.cell? ⟨G1, 0, none⟩ = some (.bool q1.num.g)
  a1 : wx.cell? ⟨G1, 1, none⟩ = some (.slice q1.num.a q1.num.n q1.num.c)
  a2 : wx.cell? ⟨G1, 2, none⟩ = some (.bool q1.den.g)
  a3 : wx.cell? ⟨G1, 3, none⟩ = some (.slice q1.den.a q1.den.n q1.den.c)
  b0 : wx.cell? ⟨G2, 0, none⟩ = some (.bool q2.num.g)
  b1 : wx.cell? ⟨G2, 1, none⟩ = some (.slice q2.num.a q2.num.n q2.num.c)
  b2 : wx.cell? ⟨G2, 2, none⟩ = some (.bool q2.den.g)
  b3 : wx.cell? ⟨G2, 3, none⟩ = some (.slice q2.den.a q2.den.n q2.den.c)
  f1 : ∀ o, wx.frozen? ⟨G1, o, none⟩ = false
  f2 : ∀ o, wx.frozen? ⟨G2, o, none⟩ = false
  bel : Below wk.heap.size wk wx

end Go.Proofs.Ytokajpeopijneaa
namespace Go.Proofs.Ytokajpeopijneaa
open Go.RowKit
set_option linter.unusedVariables false
set_option maxRecDepth 100000
set_option linter.unusedSimpArgs false

def RetS (w : World) (U : SD → Bool → Prop) (e : Ending) (w' : World) : Prop := ∃ (v : SV) (d : SD) (ok : Bool), e = .returned (.tuple #[.agg #[.bool v.lo.num.g, .slice v.lo.num.a v.lo.num.n v.lo.num.c, .bool v.lo.den.g, .slice v.lo.den.a v.lo.den.n v.lo.den.c, .bool v.hi.num.g, .slice v.hi.num.a v.hi.num.n v.hi.num.c, .bool v.hi.den.g, .slice v.hi.den.a v.hi.den.n v.hi.den.c], .bool ok]) ∧ Below w.heap.size w w' ∧ AllOwn w.heap.size w'.heap.size w' [(v.lo.num, d.lo.num), (v.lo.den, d.lo.den), (v.hi.num, d.hi.num), (v.hi.den, d.hi.den)] ∧ U d ok
theorem zeroS (lo hi : Nat) (w : World) : AllOwn lo hi w [((⟨⟨⟨false, none, 0, 0⟩, ⟨false, none, 0, 0⟩⟩, ⟨⟨false, none, 0, 0⟩, ⟨false, none, 0, 0⟩⟩⟩ : SV).lo.num, (⟨⟨⟨false, []⟩, ⟨false, []⟩⟩, ⟨⟨false, []⟩, ⟨false, []⟩⟩⟩ : SD).lo.num), ((⟨⟨⟨false, none, 0, 0⟩, ⟨false, none, 0, 0⟩⟩, ⟨⟨false, none, 0, 0⟩, ⟨false, none, 0, 0⟩⟩⟩ : SV).lo.den, (⟨⟨⟨false, []⟩, ⟨false, []⟩⟩, ⟨⟨false, []⟩, ⟨false, []⟩⟩⟩ : SD).lo.den), ((⟨⟨⟨false, none, 0, 0⟩, ⟨false, none, 0, 0⟩⟩, ⟨⟨false, none, 0, 0⟩, ⟨false, none, 0, 0⟩⟩⟩ : SV).hi.num, (⟨⟨⟨false, []⟩, ⟨false, []⟩⟩, ⟨⟨false, []⟩, ⟨false, []⟩⟩⟩ : SD).hi.num), ((⟨⟨⟨false, none, 0, 0⟩, ⟨false, none, 0, 0⟩⟩, ⟨⟨false, none, 0, 0⟩, ⟨false, none, 0, 0⟩⟩⟩ : SV).hi.den, (⟨⟨⟨false, []⟩, ⟨false, []⟩⟩, ⟨⟨false, []⟩, ⟨false, []⟩⟩⟩ : SD).hi.den)] := ⟨fun p hp => by
  have hp : p = ((⟨false, none, 0, 0⟩ : BV), (⟨false, []⟩ : BD)) := by simpa using hp
  subst hp
  exact ⟨rfl, .inl rfl, rfl⟩, List.pairwise_cons.2 ⟨fun p hp => .inl rfl, List.pairwise_cons.2 ⟨fun p hp => .inl rfl, List.pairwise_cons.2 ⟨fun p hp => .inl rfl, List.pairwise_singleton _ _⟩⟩⟩⟩
def AnsS (P : Bool) (N D N' D' : Int) (d : SD) (ok : Bool) : Prop :=
  (P = true ∧ ∃ xs us ys vs, Nm xs N.natAbs ∧ Nm us D.natAbs ∧ Nm ys N'.natAbs ∧ Nm vs D'.natAbs ∧ (((xs.length ≤ 40 ∧ us.length ≤ 40) ∧ (ys.length ≤ 40 ∧ vs.length ≤ 40) ∧ ok = true ∧ d = (⟨⟨⟨decide (N < 0), xs⟩, ⟨decide (D < 0), us⟩⟩, ⟨⟨decide (N' < 0), ys⟩, ⟨decide (D' < 0), vs⟩⟩⟩ : SD)) ∨ (¬ ((xs.length ≤ 40 ∧ us.length ≤ 40) ∧ (ys.length ≤ 40 ∧ vs.length ≤ 40)) ∧ ok = false ∧ d = (⟨⟨⟨false, []⟩, ⟨false, []⟩⟩, ⟨⟨false, []⟩, ⟨false, []⟩⟩⟩ : SD)))) ∨ (P = false ∧ ok = false ∧ d = (⟨⟨⟨false, []⟩, ⟨false, []⟩⟩, ⟨⟨false, []⟩, ⟨false, []⟩⟩⟩ : SD))
theorem AnsS.same {P : Bool} {N D N' D' : Int} {d d' : SD} {ok ok' : Bool} (h : AnsS P N D N' D' d ok) (k : AnsS P N D N' D' d' ok') : d = d' ∧ ok = ok' := by
  rcases h with ⟨p, xs, us, ys, vs, h1, h2, h3, h4, h5⟩ | ⟨p, h1, h2⟩ <;> rcases k with ⟨p', xs', us', ys', vs', k1, k2, k3, k4, k5⟩ | ⟨p', k1, k2⟩
  · obtain rfl := h1.same k1
    obtain rfl := h2.same k2
    obtain rfl := h3.same k3
    obtain rfl := h4.same k4
    rcases h5 with ⟨a, b, c, e⟩ | ⟨a, c, e⟩ <;> rcases k5 with ⟨a', b', c', e'⟩ | ⟨a', c', e'⟩
    · exact ⟨e.trans e'.symm, c.trans c'.symm⟩
    · exact absurd ⟨a, b⟩ a'
    · exact absurd ⟨a', b'⟩ a
    · exact ⟨e.trans e'.symm, c.trans c'.symm⟩
  · rw [p] at p'; cases p'
  · rw [p] at p'; cases p'
  · exact ⟨h2.trans k2.symm, h1.trans k1.symm⟩
theorem AnsS.lens {P : Bool} {N D N' D' : Int} {d : SD} {ok : Bool} (h : AnsS P N D N' D' d ok) : d.lo.num.xs.length ≤ 40 ∧ d.lo.den.xs.length ≤ 40 ∧ d.hi.num.xs.length ≤ 40 ∧ d.hi.den.xs.length ≤ 40 := by
  rcases h with ⟨p, xs, us, ys, vs, h1, h2, h3, h4, ⟨a, b, c, rfl⟩ | ⟨a, c, rfl⟩⟩ | ⟨p, h1, rfl⟩
  · exact ⟨a.1, a.2, b.1, b.2⟩
  · simp
  · simp
theorem ansS_none (N D N' D' : Int) : AnsS false N D N' D' (⟨⟨⟨false, []⟩, ⟨false, []⟩⟩, ⟨⟨false, []⟩, ⟨false, []⟩⟩⟩ : SD) false := .inr ⟨rfl, rfl, rfl⟩
theorem retS_fin {w wN W : World} {R : Nat} {v : SV} {d : SD} {ok : Bool} {U : SD → Bool → Prop} (hR : w.heap.size ≤ R) (hb : Below w.heap.size w wN) (bt : But R (R + 1) wN W)
    (ho : AllOwn (R + 1) wN.heap.size wN [(v.lo.num, d.lo.num), (v.lo.den, d.lo.den), (v.hi.num, d.hi.num), (v.hi.den, d.hi.den)]) (hu : U d ok) : RetS w U (.returned (.tuple #[.agg #[.bool v.lo.num.g, .slice v.lo.num.a v.lo.num.n v.lo.num.c, .bool v.lo.den.g, .slice v.lo.den.a v.lo.den.n v.lo.den.c, .bool v.hi.num.g, .slice v.hi.num.a v.hi.num.n v.hi.num.c, .bool v.hi.den.g, .slice v.hi.den.a v.hi.den.n v.hi.den.c], .bool ok])) W :=
  ⟨v, d, ok, rfl, bt.below hb hR hb.size, (own_fin bt ho (Nat.le_refl _)).wide (by omega) bt.size, hu⟩
/-- Two answers make one. -/
theorem ansS_two {N D N' D' : Int} {d d' : QD} {ok ok' : Bool} (h : AnsQ true N D d ok) (k : AnsQ true N' D' d' ok') : AnsS true N D N' D' (if ok && ok' then ⟨d, d'⟩ else (⟨⟨⟨false, []⟩, ⟨false, []⟩⟩, ⟨⟨false, []⟩, ⟨false, []⟩⟩⟩ : SD)) (ok && ok') := by
  rcases h with ⟨_, xs, us, h1, h2, h3⟩ | ⟨p, _⟩
  · rcases k with ⟨_, ys, vs, k1, k2, k3⟩ | ⟨p, _⟩
    · refine .inl ⟨rfl, xs, us, ys, vs, h1, h2, k1, k2, ?_⟩
      rcases h3 with ⟨a, b, rfl, rfl⟩ | ⟨a, rfl, rfl⟩ <;> rcases k3 with ⟨a', b', rfl, rfl⟩ | ⟨a', rfl, rfl⟩
      · exact .inl ⟨⟨a, b⟩, ⟨a', b'⟩, rfl, rfl⟩
      · exact .inr ⟨fun h => a' h.2, rfl, rfl⟩
      · exact .inr ⟨fun h => a h.1, rfl, rfl⟩
      · exact .inr ⟨fun h => a h.1, rfl, rfl⟩
    · cases p
  · cases p

end Go.Proofs.Ytokajpeopijneaa
namespace Go.Proofs.Ytokajpeopijneaa
open Go.RowKit
set_option linter.unusedVariables false
set_option maxRecDepth 100000
set_option linter.unusedSimpArgs false

def inQ (d : SD) (e : QD) : Bool := decide (nQ d.lo * dQ e ≤ nQ e * dQ d.lo) && decide (nQ e * dQ d.hi ≤ nQ d.hi * dQ e)
def inS (d : SD) (e : QD) : Bool := (gS d && gQ e) && inQ d e

end Go.Proofs.Ytokajpeopijneaa
namespace Go.Proofs.Ytokajpeopijneaa
open Go.RowKit
set_option linter.unusedVariables false
set_option maxRecDepth 100000
set_option linter.unusedSimpArgs false

/-- A fraction's value and what it reads as. -/
structure RQ where
  q : QV
  N : Int
  D : Int
structure RQ.Is (w : World) (x : RQ) : Prop where
  is : IsQ w x.q x.N x.D
  kn : Bd x.N 200000
  kd : Bd x.D 200000
theorem cmpZ_lt1 {A B : Int} (h : A < B) : decide (cmpZ A B < 0) = true := by unfold cmpZ; rw [if_pos h]; rfl
theorem cmpZ_lt0 {A B : Int} (h : ¬ A < B) : decide (cmpZ A B < 0) = false := by unfold cmpZ; rw [if_neg h]; split <;> rfl
theorem cmpZ_gt1 {A B : Int} (h : B < A) : decide (0 < cmpZ A B) = true := by unfold cmpZ; rw [if_neg (by omega), if_pos h]; rfl
theorem cmpZ_gt0 {A B : Int} (h : ¬ B < A) : decide (0 < cmpZ A B) = false := by unfold cmpZ; rw [if_neg h]; split <;> rfl
def stLo (s a : RQ) : RQ := if a.N * s.D < s.N * a.D then a else s
def stHi (s a : RQ) : RQ := if s.N * a.D < a.N * s.D then a else s
/-- A slice of fractions. -/
structure Rats (w : World) (b off : Nat) (l : List RQ) : Prop where
  at_ : ∀ i (h : i < l.length), w.cell? ⟨b, off + i * 4 + 0, none⟩ = some (.bool l[i].q.num.g) ∧ w.cell? ⟨b, off + i * 4 + 1, none⟩ = some (.slice l[i].q.num.a l[i].q.num.n l[i].q.num.c) ∧ w.cell? ⟨b, off + i * 4 + 2, none⟩ = some (.bool l[i].q.den.g) ∧ w.cell? ⟨b, off + i * 4 + 3, none⟩ = some (.slice l[i].q.den.a l[i].q.den.n l[i].q.den.c)
  is : ∀ i (h : i < l.length), RQ.Is w l[i]
  lt : b < w.heap.size
/-- The boxes of the least and the greatest so far. -/
structure Lst (w wr : World) (G1 G2 : Nat) (q1 q2 : QV) : Prop where
  a0 : wr.cell? ⟨G1, 0, none⟩ = some (.bool q1.num.g)
  a1 : wr.cell? ⟨G1, 1, none⟩ = some (.slice q1.num.a q1.num.n q1.num.c)
  a2 : wr.cell? ⟨G1, 2, none⟩ = some (.bool q1.den.g)
  a3 : wr.cell? ⟨G1, 3, none⟩ = some (.slice q1.den.a q1.den.n q1.den.c)
  b0 : wr.cell? ⟨G2, 0, none⟩ = some (.bool q2.num.g)
  b1 : wr.cell? ⟨G2, 1, none⟩ = some (.slice q2.num.a q2.num.n q2.num.c)
  b2 : wr.cell? ⟨G2, 2, none⟩ = some (.bool q2.den.g)
  b3 : wr.cell? ⟨G2, 3, none⟩ = some (.slice q2.den.a q2.den.n q2.den.c)
  f1 : ∀ o, wr.frozen? ⟨G1, o, none⟩ = false
  f2 : ∀ o, wr.frozen? ⟨G2, o, none⟩ = false
  r0 : wr.cell? ⟨w.heap.size + 1, 0, none⟩ = some (.bool false)
  r1 : wr.cell? ⟨w.heap.size + 1, 1, none⟩ = some (.slice none 0 0)
  r2 : wr.cell? ⟨w.heap.size + 1, 2, none⟩ = some (.bool false)
  r3 : wr.cell? ⟨w.heap.size + 1, 3, none⟩ = some (.slice none 0 0)
  r4 : wr.cell? ⟨w.heap.size + 1, 4, none⟩ = some (.bool false)
  r5 : wr.cell? ⟨w.heap.size + 1, 5, none⟩ = some (.slice none 0 0)
  r6 : wr.cell? ⟨w.heap.size + 1, 6, none⟩ = some (.bool false)
  r7 : wr.cell? ⟨w.heap.size + 1, 7, none⟩ = some (.slice none 0 0)
  fr : ∀ o, wr.frozen? ⟨w.heap.size + 1, o, none⟩ = false
  bel : Below w.heap.size w wr
theorem Lst.later {w wr wy : World} {G1 G2 : Nat} {q1 q2 : QV} (h : Lst w wr G1 G2 q1 q2) (hb : Below wr.heap.size wr wy) : Lst w wy G1 G2 q1 q2 :=
  ⟨cell_later hb h.a0, cell_later hb h.a1, cell_later hb h.a2, cell_later hb h.a3, cell_later hb h.b0, cell_later hb h.b1, cell_later hb h.b2, cell_later hb h.b3, fun o => frozen_later hb (World.block_lt_of_cell? _ _ h.a0) (h.f1 o), fun o => frozen_later hb (World.block_lt_of_cell? _ _ h.b0) (h.f2 o), cell_later hb h.r0, cell_later hb h.r1, cell_later hb h.r2, cell_later hb h.r3, cell_later hb h.r4, cell_later hb h.r5, cell_later hb h.r6, cell_later hb h.r7, fun o => frozen_later hb (World.block_lt_of_cell? _ _ h.r0) (h.fr o), below_on h.bel hb⟩
theorem Lst.set1 {w wr : World} {G1 G2 : Nat} {q1 q2 q : QV} (h : Lst w wr G1 G2 q1 q2) (hne : G1 ≠ G2) (g1 : w.heap.size + 1 < G1) (g2 : w.heap.size + 1 < G2) : Lst w ((((wr.setCell ⟨G1, 0, none⟩ (.bool q.num.g)).setCell ⟨G1, 1, none⟩ (.slice q.num.a q.num.n q.num.c)).setCell ⟨G1, 2, none⟩ (.bool q.den.g)).setCell ⟨G1, 3, none⟩ (.slice q.den.a q.den.n q.den.c)) G1 G2 q q2 :=
  ⟨by simp [go_sem, h.a0, h.a1, h.a2, h.a3], by simp [go_sem, h.a0, h.a1, h.a2, h.a3], by simp [go_sem, h.a0, h.a1, h.a2, h.a3], by simp [go_sem, h.a0, h.a1, h.a2, h.a3], cs_other (cs_other (cs_other (cs_other h.b0 (fun e => hne e.symm)) (fun e => hne e.symm)) (fun e => hne e.symm)) (fun e => hne e.symm), cs_other (cs_other (cs_other (cs_other h.b1 (fun e => hne e.symm)) (fun e => hne e.symm)) (fun e => hne e.symm)) (fun e => hne e.symm), cs_other (cs_other (cs_other (cs_other h.b2 (fun e => hne e.symm)) (fun e => hne e.symm)) (fun e => hne e.symm)) (fun e => hne e.symm), cs_other (cs_other (cs_other (cs_other h.b3 (fun e => hne e.symm)) (fun e => hne e.symm)) (fun e => hne e.symm)) (fun e => hne e.symm), fun o => by simp [go_sem, h.f1 o], fun o => by simp [go_sem, h.f2 o], cs_other (cs_other (cs_other (cs_other h.r0 (by omega)) (by omega)) (by omega)) (by omega), cs_other (cs_other (cs_other (cs_other h.r1 (by omega)) (by omega)) (by omega)) (by omega), cs_other (cs_other (cs_other (cs_other h.r2 (by omega)) (by omega)) (by omega)) (by omega), cs_other (cs_other (cs_other (cs_other h.r3 (by omega)) (by omega)) (by omega)) (by omega), cs_other (cs_other (cs_other (cs_other h.r4 (by omega)) (by omega)) (by omega)) (by omega), cs_other (cs_other (cs_other (cs_other h.r5 (by omega)) (by omega)) (by omega)) (by omega), cs_other (cs_other (cs_other (cs_other h.r6 (by omega)) (by omega)) (by omega)) (by omega), cs_other (cs_other (cs_other (cs_other h.r7 (by omega)) (by omega)) (by omega)) (by omega), fun o => by simp [go_sem, h.fr o], ((((h.bel.setCell (by show w.heap.size ≤ G1; omega) _).setCell (by show w.heap.size ≤ G1; omega) _).setCell (by show w.heap.size ≤ G1; omega) _).setCell (by show w.heap.size ≤ G1; omega) _)⟩
theorem Lst.set2 {w wr : World} {G1 G2 : Nat} {q1 q2 q : QV} (h : Lst w wr G1 G2 q1 q2) (hne : G1 ≠ G2) (g1 : w.heap.size + 1 < G1) (g2 : w.heap.size + 1 < G2) : Lst w ((((wr.setCell ⟨G2, 0, none⟩ (.bool q.num.g)).setCell ⟨G2, 1, none⟩ (.slice q.num.a q.num.n q.num.c)).setCell ⟨G2, 2, none⟩ (.bool q.den.g)).setCell ⟨G2, 3, none⟩ (.slice q.den.a q.den.n q.den.c)) G1 G2 q1 q :=
  ⟨cs_other (cs_other (cs_other (cs_other h.a0 (fun e => hne e)) (fun e => hne e)) (fun e => hne e)) (fun e => hne e), cs_other (cs_other (cs_other (cs_other h.a1 (fun e => hne e)) (fun e => hne e)) (fun e => hne e)) (fun e => hne e), cs_other (cs_other (cs_other (cs_other h.a2 (fun e => hne e)) (fun e => hne e)) (fun e => hne e)) (fun e => hne e), cs_other (cs_other (cs_other (cs_other h.a3 (fun e => hne e)) (fun e => hne e)) (fun e => hne e)) (fun e => hne e), by simp [go_sem, h.b0, h.b1, h.b2, h.b3], by simp [go_sem, h.b0, h.b1, h.b2, h.b3], by simp [go_sem, h.b0, h.b1, h.b2, h.b3], by simp [go_sem, h.b0, h.b1, h.b2, h.b3], fun o => by simp [go_sem, h.f1 o], fun o => by simp [go_sem, h.f2 o], cs_other (cs_other (cs_other (cs_other h.r0 (by omega)) (by omega)) (by omega)) (by omega), cs_other (cs_other (cs_other (cs_other h.r1 (by omega)) (by omega)) (by omega)) (by omega), cs_other (cs_other (cs_other (cs_other h.r2 (by omega)) (by omega)) (by omega)) (by omega), cs_other (cs_other (cs_other (cs_other h.r3 (by omega)) (by omega)) (by omega)) (by omega), cs_other (cs_other (cs_other (cs_other h.r4 (by omega)) (by omega)) (by omega)) (by omega), cs_other (cs_other (cs_other (cs_other h.r5 (by omega)) (by omega)) (by omega)) (by omega), cs_other (cs_other (cs_other (cs_other h.r6 (by omega)) (by omega)) (by omega)) (by omega), cs_other (cs_other (cs_other (cs_other h.r7 (by omega)) (by omega)) (by omega)) (by omega), fun o => by simp [go_sem, h.fr o], ((((h.bel.setCell (by show w.heap.size ≤ G2; omega) _).setCell (by show w.heap.size ≤ G2; omega) _).setCell (by show w.heap.size ≤ G2; omega) _).setCell (by show w.heap.size ≤ G2; omega) _)⟩

end Go.Proofs.Ytokajpeopijneaa
namespace Go.Proofs.Ytokajpeopijneaa
open Go.RowKit
set_option linter.unusedVariables false
set_option maxRecDepth 100000
set_option linter.unusedSimpArgs false

/-- In lowest terms, the denominator above 0. -/
structure Low (N D : Int) : Prop where
  pos : 0 < D
  co : Nat.gcd N.natAbs D.natAbs = 1
theorem Low.same {N D N' D' : Int} (h : Low N D) (k : Low N' D') (e : N * D' = N' * D) : N = N' ∧ D = D' := by
  have h1 : D.natAbs ∣ D'.natAbs := by
    have : D.natAbs ∣ N.natAbs * D'.natAbs := by rw [← Int.natAbs_mul, e, Int.natAbs_mul]; exact Nat.dvd_mul_left _ _
    exact Nat.Coprime.dvd_of_dvd_mul_left (by rw [Nat.Coprime, Nat.gcd_comm]; exact h.co) this
  have h2 : D'.natAbs ∣ D.natAbs := by
    have : D'.natAbs ∣ N'.natAbs * D.natAbs := by rw [← Int.natAbs_mul, ← e, Int.natAbs_mul]; exact Nat.dvd_mul_left _ _
    exact Nat.Coprime.dvd_of_dvd_mul_left (by rw [Nat.Coprime, Nat.gcd_comm]; exact k.co) this
  have h3 : D.natAbs = D'.natAbs := Nat.dvd_antisymm h1 h2
  have hp := h.pos
  have kp := k.pos
  have h4 : D = D' := by omega
  subst h4
  exact ⟨Int.eq_of_mul_eq_mul_right (by omega) e, rfl⟩
theorem low_low {N D : Int} (h : D ≠ 0) : Low (lowN N D) (lowD N D) := by
  refine ⟨lowD_pos h, ?_⟩
  have hg := gcd_pos_right (N := N) h
  have e1 : (lowN N D).natAbs = N.natAbs / Nat.gcd N.natAbs D.natAbs := by
    have h1 := lowN_abs N D
    unfold lowU at h1
    rw [← Int.natCast_ediv] at h1
    exact_mod_cast h1
  have e2 : (lowD N D).natAbs = D.natAbs / Nat.gcd N.natAbs D.natAbs := by
    have h1 := lowD_abs N D
    unfold lowD at h1 ⊢
    rw [← Int.natCast_ediv, Int.natAbs_natCast]
  rw [e1, e2]
  exact Nat.gcd_div_gcd_div_gcd_of_pos_right (by omega)
theorem low_cross {N D : Int} (h : 0 < D) : lowN N D * D = N * lowD N D := by
  have hg := gcd_pos_right (N := N) (show D ≠ 0 by omega)
  have d1 : ((Nat.gcd N.natAbs D.natAbs : Nat) : Int) ∣ (N.natAbs : Int) := by exact_mod_cast Nat.gcd_dvd_left _ _
  have d2 : ((Nat.gcd N.natAbs D.natAbs : Nat) : Int) ∣ (D.natAbs : Int) := by exact_mod_cast Nat.gcd_dvd_right _ _
  have m1 := Int.ediv_mul_cancel d1
  have m2 := Int.ediv_mul_cancel d2
  unfold lowN lowD lowU sU
  generalize (N.natAbs : Int) / ((Nat.gcd N.natAbs D.natAbs : Nat) : Int) = a at *
  generalize (D.natAbs : Int) / ((Nat.gcd N.natAbs D.natAbs : Nat) : Int) = b at *
  generalize ((Nat.gcd N.natAbs D.natAbs : Nat) : Int) = g at *
  rw [decide_eq_false (show ¬ D < 0 by omega)]
  have hD : D = b * g := by omega
  by_cases c : N < 0
  · have hN : N = -(a * g) := by omega
    rw [decide_eq_true c, if_pos (by rfl), hN, hD]
    simp only [Int.neg_mul, Int.mul_neg, Int.mul_comm, Int.mul_left_comm]
  · have hN : N = a * g := by omega
    rw [decide_eq_false c, if_neg (by simp), hN, hD]
    simp only [Int.mul_comm, Int.mul_left_comm]
theorem low_le {N D N' D' : Int} (h : 0 < D) (h' : 0 < D') (k : N * D' ≤ N' * D) : lowN N D * lowD N' D' ≤ lowN N' D' * lowD N D := by
  have c1 := low_cross (N := N) h
  have c2 := low_cross (N := N') h'
  have p1 := lowD_pos (N := N) (show D ≠ 0 by omega)
  have p2 := lowD_pos (N := N') (show D' ≠ 0 by omega)
  generalize lowN N D = n1 at *
  generalize lowN N' D' = n2 at *
  generalize lowD N D = d1 at *
  generalize lowD N' D' = d2 at *
  have hp : 0 < D * D' := Int.mul_pos h h'
  refine Int.le_of_mul_le_mul_right (a := D * D') ?_ hp
  have e1 : n1 * d2 * (D * D') = (N * D') * (d1 * d2) := by
    have : n1 * d2 * (D * D') = (n1 * D) * (d2 * D') := by simp only [Int.mul_comm, Int.mul_left_comm, Int.mul_assoc]
    rw [this, c1]; simp only [Int.mul_comm, Int.mul_left_comm, Int.mul_assoc]
  have e2 : n2 * d1 * (D * D') = (N' * D) * (d1 * d2) := by
    have : n2 * d1 * (D * D') = (n2 * D') * (d1 * D) := by simp only [Int.mul_comm, Int.mul_left_comm, Int.mul_assoc]
    rw [this, c2]; simp only [Int.mul_comm, Int.mul_left_comm, Int.mul_assoc]
  rw [e1, e2]
  exact Int.mul_le_mul_of_nonneg_right k (Int.le_of_lt (Int.mul_pos p1 p2))
theorem least_two {x y : RQ} (hx : Low x.N x.D) (hy : Low y.N y.D) (h : x.N * y.D ≤ y.N * x.D) : ((stLo x y).N = x.N ∧ (stLo x y).D = x.D) ∧ ((stHi x y).N = y.N ∧ (stHi x y).D = y.D) := by
  unfold stLo stHi
  rw [if_neg (by omega)]
  refine ⟨⟨rfl, rfl⟩, ?_⟩
  by_cases c : x.N * y.D < y.N * x.D
  · rw [if_pos c]; exact ⟨rfl, rfl⟩
  · rw [if_neg c]; exact hx.same hy (by omega)
theorem add_le {a b c d e f g k : Int} (h1 : a * d ≤ c * b) (h2 : e * k ≤ g * f) (hb : 0 < b) (hd : 0 < d) (hf : 0 < f) (hk : 0 < k) : (a * f + e * b) * (d * k) ≤ (c * k + g * d) * (b * f) := by
  have m1 := Int.mul_le_mul_of_nonneg_right h1 (Int.le_of_lt (Int.mul_pos hf hk))
  have m2 := Int.mul_le_mul_of_nonneg_right h2 (Int.le_of_lt (Int.mul_pos hb hd))
  have e1 : (a * f + e * b) * (d * k) = a * d * (f * k) + e * k * (b * d) := by simp only [Int.add_mul, Int.mul_add, Int.mul_comm, Int.mul_left_comm, Int.mul_assoc]
  have e2 : (c * k + g * d) * (b * f) = c * b * (f * k) + g * f * (b * d) := by simp only [Int.add_mul, Int.mul_add, Int.mul_comm, Int.mul_left_comm, Int.mul_assoc]
  rw [e1, e2]
  omega
theorem sub_le {a b c d e f g k : Int} (h1 : a * d ≤ c * b) (h2 : e * k ≤ g * f) (hb : 0 < b) (hd : 0 < d) (hf : 0 < f) (hk : 0 < k) : (a * k - g * b) * (d * f) ≤ (c * f - e * d) * (b * k) := by
  have m1 := Int.mul_le_mul_of_nonneg_right h1 (Int.le_of_lt (Int.mul_pos hf hk))
  have m2 := Int.mul_le_mul_of_nonneg_right h2 (Int.le_of_lt (Int.mul_pos hb hd))
  have e1 : (a * k - g * b) * (d * f) = a * d * (f * k) - g * f * (b * d) := by simp only [Int.sub_mul, Int.mul_sub, Int.mul_comm, Int.mul_left_comm, Int.mul_assoc]
  have e2 : (c * f - e * d) * (b * k) = c * b * (f * k) - e * k * (b * d) := by simp only [Int.sub_mul, Int.mul_sub, Int.mul_comm, Int.mul_left_comm, Int.mul_assoc]
  rw [e1, e2]
  omega
/-- A slice of one fraction that the program has just made. -/
theorem rats_one {w : World} {r : RQ} {t : TypeId} (h : RQ.Is w r) : Rats (w.alloc (.cells #[.bool r.q.num.g, .slice r.q.num.a r.q.num.n r.q.num.c, .bool r.q.den.g, .slice r.q.den.a r.q.den.n r.q.den.c] t)) w.heap.size 0 [r] := by
  refine ⟨fun i hi => ?_, fun i hi => ?_, by simp⟩
  · obtain rfl : i = 0 := by simp at hi; omega
    simp [go_sem]
  · obtain rfl : i = 0 := by simp at hi; omega
    exact ⟨h.is.later ((Below.refl _ _).alloc (Nat.le_refl _) _), h.kn, h.kd⟩
end Go.Proofs.Ytokajpeopijneaa
namespace Go.Proofs.Ytokajpeopijneaa
open Go.RowKit
set_option linter.unusedVariables false
set_option maxRecDepth 100000
set_option linter.unusedSimpArgs false

set_option maxHeartbeats 4000000 in
theorem wholeI (n : Int) (w : World) (h0 : -9223372036854775808 ≤ n) (h1 : n ≤ 9223372036854775807) : Calls Try.prog 36 #[.int .i64 n] w (OutQ w n 1) := by
  have B0 := hide (show Below w.heap.size w (w.alloc (.cells #[.bool false, .slice none 0 0, .bool false, .slice none 0 0] 42)) from ((Below.refl _ _).alloc (by simp) _))
  go_enter Try.func36, Try.ntmps36
  go_wp2_with fail
  refine (ofI_v n _ h0 h1).mono ?_
  rintro e w1 ⟨x1, l1, rfl, hb, o1, a1, n1⟩
  have s1 : w.heap.size + 1 ≤ w1.heap.size := by have := hb.size; simp at this; omega
  replace o1 := o1.wide (lo' := w.heap.size + 1) (by simp) (Nat.le_refl _)
  have k0_0 : w1.cell? ⟨w.heap.size, 0, none⟩ = some (.bool false) := cell_later hb (by simp [go_sem])
  have k0_1 : w1.cell? ⟨w.heap.size, 1, none⟩ = some (.slice none 0 0) := cell_later hb (by simp [go_sem])
  have k0_2 : w1.cell? ⟨w.heap.size, 2, none⟩ = some (.bool false) := cell_later hb (by simp [go_sem])
  have k0_3 : w1.cell? ⟨w.heap.size, 3, none⟩ = some (.slice none 0 0) := cell_later hb (by simp [go_sem])
  have z0 : ∀ o, w1.frozen? ⟨w.heap.size, o, none⟩ = false := fun o => frozen_later hb (by simp) (by simp [go_sem])
  have P1 := hide (outN_ow o1 a1 n1)
  have HB := hide (below_on (unhide B0) hb)
  clear hb
  clear o1 a1 n1
  go_wp2_with fail
  refine (ofI_v 1 _ (by omega) (by omega)).mono ?_
  rintro e w2 ⟨x2, l2, rfl, hb, o2, a2, n2⟩
  have s2 := hb.size
  replace z0 := fun o => frozen_later hb (World.block_lt_of_cell? _ _ k0_0) (z0 o)
  replace k0_0 := cell_later hb k0_0
  replace k0_1 := cell_later hb k0_1
  replace k0_2 := cell_later hb k0_2
  replace k0_3 := cell_later hb k0_3
  replace P1 := hide ((unhide P1).later hb)
  have P2 := hide (outN_ow o2 a2 n2)
  replace HB := hide (below_on (unhide HB) hb)
  clear hb
  clear o2 a2 n2
  go_wp2
  refine bodyPost_ret (v := .agg #[.bool x1.g, .slice x1.a x1.n x1.c, .bool x2.g, .slice x2.a x2.n x2.c]) (by simp [results, Try.results36, go_sem, k0_0, k0_1, k0_2, k0_3]) rfl ?_
  obtain ⟨zs, us, oo, aa, m1, m2⟩ := (unhide P1).two (unhide P2) s1 s2
  exact outQ_fin (q := ⟨x1, x2⟩) (R := w.heap.size) (Nat.le_refl _) (unhide HB) (metQ_but (w5 := w2) (v := ⟨x1, x2⟩) (G := w.heap.size)) oo aa m1 m2

set_option maxHeartbeats 4000000 in
theorem wholeS (n : Int) (w : World) (h0 : -9223372036854775808 ≤ n) (h1 : n ≤ 9223372036854775807) : Calls Try.prog 30 #[.int .i64 n] w (OutQ w n 1) := by
  have B0 := hide (show Below w.heap.size w (w.alloc (.cells #[.bool false, .slice none 0 0, .bool false, .slice none 0 0] 42)) from ((Below.refl _ _).alloc (by simp) _))
  go_enter Try.func30, Try.ntmps30
  go_wp2_with fail
  refine (ofS_v n _ h0 h1).mono ?_
  rintro e w1 ⟨x1, l1, rfl, hb, o1, a1, n1⟩
  have s1 : w.heap.size + 1 ≤ w1.heap.size := by have := hb.size; simp at this; omega
  replace o1 := o1.wide (lo' := w.heap.size + 1) (by simp) (Nat.le_refl _)
  have k0_0 : w1.cell? ⟨w.heap.size, 0, none⟩ = some (.bool false) := cell_later hb (by simp [go_sem])
  have k0_1 : w1.cell? ⟨w.heap.size, 1, none⟩ = some (.slice none 0 0) := cell_later hb (by simp [go_sem])
  have k0_2 : w1.cell? ⟨w.heap.size, 2, none⟩ = some (.bool false) := cell_later hb (by simp [go_sem])
  have k0_3 : w1.cell? ⟨w.heap.size, 3, none⟩ = some (.slice none 0 0) := cell_later hb (by simp [go_sem])
  have z0 : ∀ o, w1.frozen? ⟨w.heap.size, o, none⟩ = false := fun o => frozen_later hb (by simp) (by simp [go_sem])
  have P1 := hide (outN_ow o1 a1 n1)
  have HB := hide (below_on (unhide B0) hb)
  clear hb
  clear o1 a1 n1
  go_wp2_with fail
  refine (ofS_v 1 _ (by omega) (by omega)).mono ?_
  rintro e w2 ⟨x2, l2, rfl, hb, o2, a2, n2⟩
  have s2 := hb.size
  replace z0 := fun o => frozen_later hb (World.block_lt_of_cell? _ _ k0_0) (z0 o)
  replace k0_0 := cell_later hb k0_0
  replace k0_1 := cell_later hb k0_1
  replace k0_2 := cell_later hb k0_2
  replace k0_3 := cell_later hb k0_3
  replace P1 := hide ((unhide P1).later hb)
  have P2 := hide (outN_ow o2 a2 n2)
  replace HB := hide (below_on (unhide HB) hb)
  clear hb
  clear o2 a2 n2
  go_wp2
  refine bodyPost_ret (v := .agg #[.bool x1.g, .slice x1.a x1.n x1.c, .bool x2.g, .slice x2.a x2.n x2.c]) (by simp [results, Try.results30, go_sem, k0_0, k0_1, k0_2, k0_3]) rfl ?_
  obtain ⟨zs, us, oo, aa, m1, m2⟩ := (unhide P1).two (unhide P2) s1 s2
  exact outQ_fin (q := ⟨x1, x2⟩) (R := w.heap.size) (Nat.le_refl _) (unhide HB) (metQ_but (w5 := w2) (v := ⟨x1, x2⟩) (G := w.heap.size)) oo aa m1 m2

/-- Whether a span has 0 within, as the program asks. -/
def hN (d : SD) : Bool := (d.lo.num.g || decide (d.lo.num.xs.length = 0)) && !d.hi.num.g
def zQD : QD := ⟨⟨false, []⟩, ⟨false, [1]⟩⟩
theorem zQD_n : nQ zQD = 0 := by decide
theorem zQD_d : dQ zQD = 1 := by decide
theorem isGood_zero {w : World} {q : QV} (h : IsQ w q 0 1) : IsGood w q zQD := by
  refine ⟨by rw [zQD_n, zQD_d]; exact h, ?_, ?_, by rw [zQD_d]; omega, by rw [zQD_n, zQD_d]; rfl⟩
  · rw [zQD_n]; exact ⟨by decide⟩
  · rw [zQD_d]; exact ⟨by decide⟩
/-- A good number is below 0 where its sign says so, 0 without limbs. -/
theorem goodB_neg {g : Bool} {xs : List Int} (h : goodB g xs = true) : (sv g xs < 0 ↔ g = true) ∧ (sv g xs = 0 ↔ xs.length = 0) := by
  obtain ⟨h1, h2, h3, h4⟩ := good_parts h
  have hv := val_nonneg h1
  have hz := val_zero_iff h1 h2
  have hl : xs = [] ↔ xs.length = 0 := List.length_eq_zero_iff.symm
  unfold sv
  cases g
  · rw [if_neg (by simp)]
    exact ⟨⟨fun e => by omega, fun e => by cases e⟩, hz.trans hl⟩
  · rw [if_pos rfl]
    have h5 : xs ≠ [] := fun e => by cases h4 e
    have h6 : val xs ≠ 0 := fun e => h5 (hz.1 e)
    exact ⟨⟨fun _ => rfl, fun _ => by omega⟩, ⟨fun e => by omega, fun e => absurd (hl.2 e) h5⟩⟩
theorem goodS_nums {d : SD} (hg : gS d = true) : goodB d.lo.num.g d.lo.num.xs = true ∧ goodB d.hi.num.g d.hi.num.xs = true := by
  unfold gS at hg
  simp only [Bool.and_eq_true, decide_eq_true_eq] at hg
  exact ⟨(goodR_parts hg.1.1).1, (goodR_parts hg.1.2).1⟩
theorem hN_iff {d : SD} (hg : gS d = true) : hN d = true ↔ (nQ d.lo ≤ 0 ∧ 0 ≤ nQ d.hi) := by
  obtain ⟨g1, g2⟩ := goodS_nums hg
  have a := goodB_neg g1
  have b := goodB_neg g2
  unfold hN nQ
  generalize sv d.lo.num.g d.lo.num.xs = x at *
  generalize sv d.hi.num.g d.hi.num.xs = y at *
  rw [Bool.and_eq_true, Bool.or_eq_true, decide_eq_true_eq, ← a.1, ← a.2]
  refine and_congr (by omega) ?_
  cases hh : d.hi.num.g
  · refine ⟨fun _ => ?_, fun _ => rfl⟩
    have : ¬ y < 0 := fun e => by have := b.1.1 e; rw [hh] at this; cases this
    omega
  · refine ⟨fun e => (by cases e), fun e => ?_⟩
    have := b.1.2 hh
    omega
theorem inQ_zero {d : SD} (hg : gS d = true) : inQ d zQD = hN d := by
  have h := hN_iff hg
  have e : inQ d zQD = true ↔ (nQ d.lo ≤ 0 ∧ 0 ≤ nQ d.hi) := by
    unfold inQ
    rw [zQD_n, zQD_d, Bool.and_eq_true, decide_eq_true_eq, decide_eq_true_eq, Int.mul_one, Int.mul_one, Int.zero_mul, Int.zero_mul]
  exact Bool.eq_iff_iff.2 (e.trans h.symm)
end Go.Proofs.Ytokajpeopijneaa
namespace Go.Proofs.Ytokajpeopijneaa
open Go.RowKit
set_option linter.unusedVariables false
set_option maxRecDepth 100000
set_option linter.unusedSimpArgs false


end Go.Proofs.Ytokajpeopijneaa
namespace Go.Proofs.Ytokajpeopijneaa
open Go.RowKit
set_option linter.unusedVariables false
set_option maxRecDepth 100000
set_option linter.unusedSimpArgs false

/-- A rational number's numerator and denominator. -/
def nR (x : Rat) : Int := x.num
def dR (x : Rat) : Int := (x.den : Int)
theorem dR_pos (x : Rat) : 0 < dR x := by have := x.den_nz; show (0 : Int) < (x.den : Int); omega
theorem dR_ne (x : Rat) : dR x ≠ 0 := Int.ne_of_gt (dR_pos x)
theorem nR_low (x : Rat) : Low (nR x) (dR x) := ⟨dR_pos x, by show Nat.gcd x.num.natAbs ((x.den : Int)).natAbs = 1; rw [Int.natAbs_natCast]; exact x.reduced⟩
theorem nR_self (x : Rat) : Rat.divInt (nR x) (dR x) = x := Rat.num_divInt_den x
theorem low_x2 {N D : Int} (h : D ≠ 0) : lowN N D * D = N * lowD N D := by
  rcases Int.lt_or_gt_of_ne h with h0 | h0
  · have e1 := low_neg (N := N) h0
    have e2 := low_cross (N := -N) (D := -D) (by omega)
    have e3 : lowN (-N) (-D) = lowN N D ∧ lowD (-N) (-D) = lowD N D := by
      have l1 := low_low (N := N) h
      have l2 := low_low (N := -N) (D := -D) (by omega)
      have u1 : lowU (-N) (-D) = lowU N D := by unfold lowU; simp
      constructor
      · have a1 := low_pos (N := -N) (D := -D) (by omega)
        have a2 := low_neg (N := N) h0
        rw [← a1.1, ← a2.1, u1]
        unfold sU
        by_cases c : N < 0
        · rw [decide_eq_true c, decide_eq_false (show ¬ (-N < 0) by omega)]; simp
        · by_cases c0 : N = 0
          · subst c0
            have : lowU 0 D = 0 := by unfold lowU; simp
            rw [this]
            simp
          · rw [decide_eq_false c, decide_eq_true (show -N < 0 by omega)]; simp
      · have a1 := low_pos (N := -N) (D := -D) (by omega)
        have a2 := low_neg (N := N) h0
        have v1 : lowD (-N) (-D) = lowD N D := by unfold lowD; simp
        exact v1
    rw [e3.1, e3.2] at e2
    generalize lowN N D = a at *
    generalize lowD N D = b at *
    grind
  · exact low_cross h0
theorem lowR {N D : Int} (h : D ≠ 0) : lowN N D = nR (Rat.divInt N D) ∧ lowD N D = dR (Rat.divInt N D) := by
  have h1 := nR_self (Rat.divInt N D)
  have h2 := (Rat.divInt_eq_divInt_iff (dR_ne _) h).1 h1
  have h3 := low_x2 (N := N) h
  exact (low_low (N := N) h).same (nR_low (Rat.divInt N D)) (by
    generalize nR (Rat.divInt N D) = a at *
    generalize dR (Rat.divInt N D) = b at *
    refine Int.eq_of_mul_eq_mul_right h ?_
    grind)
theorem lowR_is {N D : Int} (h : Low N D) : N = nR (Rat.divInt N D) ∧ D = dR (Rat.divInt N D) := by
  have h1 := lowR (N := N) (Int.ne_of_gt h.pos)
  have h2 := (low_low (N := N) (Int.ne_of_gt h.pos)).same h (low_cross h.pos)
  rw [← h1.1, ← h1.2, h2.1, h2.2]
  exact ⟨rfl, rfl⟩
theorem addR (x y : Rat) : lowN (nR x * dR y + nR y * dR x) (dR x * dR y) = nR (x + y) ∧ lowD (nR x * dR y + nR y * dR x) (dR x * dR y) = dR (x + y) := by
  have h := lowR (N := nR x * dR y + nR y * dR x) (Int.mul_ne_zero (dR_ne x) (dR_ne y))
  rw [← Rat.divInt_add_divInt _ _ (dR_ne x) (dR_ne y), nR_self, nR_self] at h
  exact h
theorem subR (x y : Rat) : lowN (nR x * dR y - nR y * dR x) (dR x * dR y) = nR (x - y) ∧ lowD (nR x * dR y - nR y * dR x) (dR x * dR y) = dR (x - y) := by
  have h := lowR (N := nR x * dR y - nR y * dR x) (Int.mul_ne_zero (dR_ne x) (dR_ne y))
  rw [← Rat.divInt_sub_divInt _ _ (dR_ne x) (dR_ne y), nR_self, nR_self] at h
  exact h
theorem mulR (x y : Rat) : lowN (nR x * nR y) (dR x * dR y) = nR (x * y) ∧ lowD (nR x * nR y) (dR x * dR y) = dR (x * y) := by
  have h := lowR (N := nR x * nR y) (Int.mul_ne_zero (dR_ne x) (dR_ne y))
  rw [← Rat.divInt_mul_divInt, nR_self, nR_self] at h
  exact h
theorem intR (n : Int) : nR (n : Rat) = n ∧ dR (n : Rat) = 1 := ⟨rfl, rfl⟩
/-- A rational number of few limbs. -/
structure BdR (x : Rat) (L : Nat) : Prop where
  n : Bd (nR x) L
  d : Bd (dR x) L
theorem BdR.mono {x : Rat} {L L' : Nat} (h : BdR x L) (k : L ≤ L') : BdR x L' := ⟨h.n.mono k, h.d.mono k⟩
theorem BdR.add {x y : Rat} {L K : Nat} (h : BdR x L) (k : BdR y K) : BdR (x + y) (L + K + 1) := by
  have e := addR x y
  constructor
  · rw [← e.1]
    exact lowN_bd ((((h.n.mul k.d).mono (Nat.le_refl _)).add ((k.n.mul h.d).mono (by omega))))
  · rw [← e.2]
    exact lowD_bd ((h.d.mul k.d).mono (by omega))
theorem BdR.sub {x y : Rat} {L K : Nat} (h : BdR x L) (k : BdR y K) : BdR (x - y) (L + K + 1) := by
  have e := subR x y
  constructor
  · rw [← e.1]
    refine lowN_bd ?_
    rw [Int.sub_eq_add_neg]
    exact ((h.n.mul k.d).mono (Nat.le_refl _)).add (((k.n.mul h.d).neg).mono (by omega))
  · rw [← e.2]
    exact lowD_bd ((h.d.mul k.d).mono (by omega))
theorem BdR.mul {x y : Rat} {L K : Nat} (h : BdR x L) (k : BdR y K) : BdR (x * y) (L + K) := by
  have e := mulR x y
  constructor
  · rw [← e.1]
    exact lowN_bd (h.n.mul k.n)
  · rw [← e.2]
    exact lowD_bd (h.d.mul k.d)
theorem bdR_int {n : Int} (h0 : -1000 ≤ n) (h1 : n ≤ 1000) : BdR (n : Rat) 1 := ⟨⟨by rw [(intR n).1]; omega⟩, ⟨by rw [(intR n).2]; decide⟩⟩
theorem bdR_div {a b : Int} (h0 : -1000 ≤ a) (h1 : a ≤ 1000) (h2 : b ≠ 0) (h3 : -1000 ≤ b) (h4 : b ≤ 1000) : BdR (Rat.divInt a b) 1 := by
  have e := lowR (N := a) h2
  constructor
  · rw [← e.1]; exact lowN_bd ⟨by omega⟩
  · rw [← e.2]; exact lowD_bd ⟨by omega⟩
/-- What is read is this rational number. -/
def IsR (w : World) (q : QV) (x : Rat) : Prop := IsQ w q (nR x) (dR x)
theorem IsR.later {w w' : World} {q : QV} {x : Rat} (h : IsR w q x) (hb : Below w.heap.size w w') : IsR w' q x := IsQ.later h hb
def OuR (w : World) (x : Rat) (e : Ending) (w' : World) : Prop := OutQ w (nR x) (dR x) e w'
def OuRv (w : World) (x : Rat) (e : Ending) (w' : World) : Prop := OutQv w (nR x) (dR x) e w'
theorem wholeRI (n : Int) (w : World) (h0 : -9223372036854775808 ≤ n) (h1 : n ≤ 9223372036854775807) : Calls Try.prog 36 #[.int .i64 n] w (OuR w (n : Rat)) := wholeI n w h0 h1
theorem wholeRS (n : Int) (w : World) (h0 : -9223372036854775808 ≤ n) (h1 : n ≤ 9223372036854775807) : Calls Try.prog 30 #[.int .i64 n] w (OuR w (n : Rat)) := wholeS n w h0 h1
theorem isR_of {w : World} {q : QV} {x : Rat} {xs us : List Int} (h : AllAr w [(q.num, ⟨decide (nR x < 0), xs⟩), (q.den, ⟨decide (dR x < 0), us⟩)]) (h1 : Nm xs (nR x).natAbs) (h2 : Nm us (dR x).natAbs) : IsR w q x := isQ_of h h1 h2
/-- A point of fractions by value. -/
structure IsPt (w : World) (v : SV) (p : Rat × Rat) : Prop where
  x : IsR w v.lo p.1
  y : IsR w v.hi p.2
theorem IsPt.later {w w' : World} {v : SV} {p : Rat × Rat} (h : IsPt w v p) (hb : Below w.heap.size w w') : IsPt w' v p := ⟨h.x.later hb, h.y.later hb⟩
structure BdP (p : Rat × Rat) (L : Nat) : Prop where
  x : BdR p.1 L
  y : BdR p.2 L
theorem BdP.mono {p : Rat × Rat} {L L' : Nat} (h : BdP p L) (k : L ≤ L') : BdP p L' := ⟨h.x.mono k, h.y.mono k⟩
def OutPt (w : World) (p : Rat × Rat) (e : Ending) (w' : World) : Prop := OutS w (nR p.1) (dR p.1) (nR p.2) (dR p.2) e w'
/-- A good fraction's value. -/
def vQ (d : QD) : Rat := Rat.divInt (nQ d) (dQ d)
theorem vQ_good {w : World} {q : QV} {d : QD} (j : IsGood w q d) : nQ d = nR (vQ d) ∧ dQ d = dR (vQ d) := lowR_is ⟨j.pos, j.low⟩
theorem isR_good {w : World} {q : QV} {d : QD} (j : IsGood w q d) : IsR w q (vQ d) := by
  have h := vQ_good j
  have := j.is
  rw [h.1, h.2] at this
  exact this
end Go.Proofs.Ytokajpeopijneaa
namespace Go.Proofs.Ytokajpeopijneaa
open Go.RowKit
set_option linter.unusedVariables false
set_option maxRecDepth 100000
set_option linter.unusedSimpArgs false

/-- q is the rational number x, in memory at blocks from lo to below hi, numerator and denominator apart. -/
def OwR (lo hi : Nat) (w : World) (q : QV) (x : Rat) : Prop := ∃ xs us, AllOwn lo hi w [(q.num, ⟨decide (nR x < 0), xs⟩), (q.den, ⟨decide (dR x < 0), us⟩)] ∧ AllAr w [(q.num, ⟨decide (nR x < 0), xs⟩), (q.den, ⟨decide (dR x < 0), us⟩)] ∧ Nm xs (nR x).natAbs ∧ Nm us (dR x).natAbs
theorem OwR.later {lo hi : Nat} {w w' : World} {q : QV} {x : Rat} (h : OwR lo hi w q x) (hb : Below w.heap.size w w') : OwR lo hi w' q x := by
  obtain ⟨xs, us, h1, h2, h3, h4⟩ := h
  exact ⟨xs, us, h1.later hb, h2.later hb, h3, h4⟩
theorem OwR.is {lo hi : Nat} {w : World} {q : QV} {x : Rat} (h : OwR lo hi w q x) : IsR w q x := by
  obtain ⟨xs, us, h1, h2, h3, h4⟩ := h
  exact isR_of h2 h3 h4
theorem OwR.wide {lo hi lo' hi' : Nat} {w : World} {q : QV} {x : Rat} (h : OwR lo hi w q x) (h1 : lo' ≤ lo) (h2 : hi ≤ hi') : OwR lo' hi' w q x := by
  obtain ⟨xs, us, k1, k2, k3, k4⟩ := h
  exact ⟨xs, us, k1.wide h1 h2, k2, k3, k4⟩
theorem owR_of {lo hi : Nat} {w : World} {q : QV} {x : Rat} {xs us : List Int} (ho : AllOwn lo hi w [(q.num, ⟨decide (nR x < 0), xs⟩), (q.den, ⟨decide (dR x < 0), us⟩)]) (ha : AllAr w [(q.num, ⟨decide (nR x < 0), xs⟩), (q.den, ⟨decide (dR x < 0), us⟩)]) (h1 : Nm xs (nR x).natAbs) (h2 : Nm us (dR x).natAbs) : OwR lo hi w q x := ⟨xs, us, ho, ha, h1, h2⟩
theorem outR_fin {w wN W : World} {R lo hi : Nat} {q : QV} {x : Rat} (hR : w.heap.size ≤ R) (hb : Below w.heap.size w wN) (bt : But R (R + 1) wN W) (h : OwR lo hi wN q x) (h1 : R + 1 ≤ lo) (h2 : hi ≤ wN.heap.size) :
    OuR w x (.returned (.agg #[.bool q.num.g, .slice q.num.a q.num.n q.num.c, .bool q.den.g, .slice q.den.a q.den.n q.den.c])) W := by
  obtain ⟨xs, us, k1, k2, k3, k4⟩ := h
  exact outQ_fin hR hb bt (k1.wide h1 h2) k2 k3 k4
/-- .. where numerator and denominator may share memory. -/
structure OwV (lo hi : Nat) (w : World) (q : QV) (x : Rat) : Prop where
  n : Ow lo hi w q.num (nR x)
  d : Ow lo hi w q.den (dR x)
theorem OwV.later {lo hi : Nat} {w w' : World} {q : QV} {x : Rat} (h : OwV lo hi w q x) (hb : Below w.heap.size w w') : OwV lo hi w' q x := ⟨h.n.later hb, h.d.later hb⟩
theorem OwV.is {lo hi : Nat} {w : World} {q : QV} {x : Rat} (h : OwV lo hi w q x) : IsR w q x := ⟨h.n.is, h.d.is⟩
theorem OwV.wide {lo hi lo' hi' : Nat} {w : World} {q : QV} {x : Rat} (h : OwV lo hi w q x) (h1 : lo' ≤ lo) (h2 : hi ≤ hi') : OwV lo' hi' w q x := ⟨h.n.wide h1 h2, h.d.wide h1 h2⟩
theorem OwV.but {lo hi lo' hi' : Nat} {w w' : World} {q : QV} {x : Rat} (h : OwV lo hi w q x) (bt : But lo' hi' w w') (hd : hi ≤ lo' ∨ hi' ≤ lo) : OwV lo hi w' q x := ⟨h.n.but bt hd, h.d.but bt hd⟩
theorem outRv_fin {w wN W : World} {R lo hi : Nat} {q : QV} {x : Rat} (hR : w.heap.size ≤ R) (hb : Below w.heap.size w wN) (bt : But R (R + 1) wN W) (h : OwV lo hi wN q x) (h1 : R + 1 ≤ lo) (h2 : hi ≤ wN.heap.size) :
    OuRv w x (.returned (.agg #[.bool q.num.g, .slice q.num.a q.num.n q.num.c, .bool q.den.g, .slice q.den.a q.den.n q.den.c])) W := outQv_fin hR hb bt (h.n.wide h1 h2) (h.d.wide h1 h2)
theorem OwR.v {lo hi : Nat} {w : World} {q : QV} {x : Rat} (h : OwR lo hi w q x) : OwV lo hi w q x := by
  obtain ⟨xs, us, ho, ha, h1, h2⟩ := h
  exact ⟨⟨xs, ⟨fun p hp => ho.own p (by simp at hp ⊢; exact .inl hp), List.pairwise_singleton _ _⟩, fun p hp => ha p (by simp at hp ⊢; exact .inl hp), h1⟩, ⟨us, ⟨fun p hp => ho.own p (by simp at hp ⊢; exact .inr hp), List.pairwise_singleton _ _⟩, fun p hp => ha p (by simp at hp ⊢; exact .inr hp), h2⟩⟩
/-- A call answers what reads as the point p, in memory of its own, parts of which may be shared. -/
def OutPv (w : World) (p : Rat × Rat) (e : Ending) (w' : World) : Prop := ∃ v : SV, e = .returned (.agg #[.bool v.lo.num.g, .slice v.lo.num.a v.lo.num.n v.lo.num.c, .bool v.lo.den.g, .slice v.lo.den.a v.lo.den.n v.lo.den.c, .bool v.hi.num.g, .slice v.hi.num.a v.hi.num.n v.hi.num.c, .bool v.hi.den.g, .slice v.hi.den.a v.hi.den.n v.hi.den.c]) ∧ Below w.heap.size w w' ∧ OwV w.heap.size w'.heap.size w' v.lo p.1 ∧ OwV w.heap.size w'.heap.size w' v.hi p.2
theorem outPv_fin {w wN W : World} {R lo hi lo' hi' : Nat} {v : SV} {x y : Rat} (hR : w.heap.size ≤ R) (hb : Below w.heap.size w wN) (bt : But R (R + 1) wN W) (h : OwV lo hi wN v.lo x) (k : OwV lo' hi' wN v.hi y) (h1 : R + 1 ≤ lo) (h2 : hi ≤ wN.heap.size) (h3 : R + 1 ≤ lo') (h4 : hi' ≤ wN.heap.size) :
    OutPv w (x, y) (.returned (.agg #[.bool v.lo.num.g, .slice v.lo.num.a v.lo.num.n v.lo.num.c, .bool v.lo.den.g, .slice v.lo.den.a v.lo.den.n v.lo.den.c, .bool v.hi.num.g, .slice v.hi.num.a v.hi.num.n v.hi.num.c, .bool v.hi.den.g, .slice v.hi.den.a v.hi.den.n v.hi.den.c])) W :=
  ⟨v, rfl, bt.below hb hR hb.size, (h.but bt (.inr h1)).wide (by omega) (Nat.le_trans h2 bt.size), (k.but bt (.inr h3)).wide (by omega) (Nat.le_trans h4 bt.size)⟩
theorem outPt_fin {w wN W : World} {R lo mid hi : Nat} {v : SV} {x y : Rat} (hR : w.heap.size ≤ R) (hb : Below w.heap.size w wN) (bt : But R (R + 1) wN W) (h : OwR lo mid wN v.lo x) (k : OwR mid hi wN v.hi y) (h1 : R + 1 ≤ lo) (h2 : lo ≤ mid) (h3 : mid ≤ hi) (h4 : hi ≤ wN.heap.size) :
    OutPt w (x, y) (.returned (.agg #[.bool v.lo.num.g, .slice v.lo.num.a v.lo.num.n v.lo.num.c, .bool v.lo.den.g, .slice v.lo.den.a v.lo.den.n v.lo.den.c, .bool v.hi.num.g, .slice v.hi.num.a v.hi.num.n v.hi.num.c, .bool v.hi.den.g, .slice v.hi.den.a v.hi.den.n v.hi.den.c])) W := by
  obtain ⟨xs, us, a1, a2, a3, a4⟩ := h
  obtain ⟨ys, vs, b1, b2, b3, b4⟩ := k
  exact outS_fin hR hb bt ((a1.join b1 h2 h3).wide h1 h4) (a2.append b2) a3 a4 b3 b4
/-- A point that is a call's own. -/
def OwP2 (lo hi : Nat) (w : World) (v : SV) (p : Rat × Rat) : Prop := ∃ d : SD, AllOwn lo hi w [(v.lo.num, d.lo.num), (v.lo.den, d.lo.den), (v.hi.num, d.hi.num), (v.hi.den, d.hi.den)] ∧ AllAr w [(v.lo.num, d.lo.num), (v.lo.den, d.lo.den), (v.hi.num, d.hi.num), (v.hi.den, d.hi.den)] ∧ (d.lo.num.g = decide (nR p.1 < 0) ∧ Nm d.lo.num.xs (nR p.1).natAbs) ∧ (d.lo.den.g = decide (dR p.1 < 0) ∧ Nm d.lo.den.xs (dR p.1).natAbs) ∧ (d.hi.num.g = decide (nR p.2 < 0) ∧ Nm d.hi.num.xs (nR p.2).natAbs) ∧ (d.hi.den.g = decide (dR p.2 < 0) ∧ Nm d.hi.den.xs (dR p.2).natAbs)
end Go.Proofs.Ytokajpeopijneaa
namespace Go.Proofs.Ytokajpeopijneaa
open Go.RowKit
set_option linter.unusedVariables false
set_option maxRecDepth 100000
set_option linter.unusedSimpArgs false


end Go.Proofs.Ytokajpeopijneaa
namespace Go.Proofs.Ytokajpeopijneaa
open Go.RowKit
set_option linter.unusedVariables false
set_option maxRecDepth 100000
set_option linter.unusedSimpArgs false

/-- The cells of some values in a row. -/
def PAtS (w : World) (a : Option Addr) (l : List (SV × SD)) : Prop := l = [] ∨ ∃ b off, a = some ⟨b, off, none⟩ ∧ b < w.heap.size ∧ ∀ i (h : i < l.length), w.cell? ⟨b, off + i * 8, none⟩ = some (.bool l[i].1.lo.num.g) ∧ w.cell? ⟨b, off + i * 8 + 1, none⟩ = some (.slice l[i].1.lo.num.a l[i].1.lo.num.n l[i].1.lo.num.c) ∧ w.cell? ⟨b, off + i * 8 + 2, none⟩ = some (.bool l[i].1.lo.den.g) ∧ w.cell? ⟨b, off + i * 8 + 3, none⟩ = some (.slice l[i].1.lo.den.a l[i].1.lo.den.n l[i].1.lo.den.c) ∧ w.cell? ⟨b, off + i * 8 + 4, none⟩ = some (.bool l[i].1.hi.num.g) ∧ w.cell? ⟨b, off + i * 8 + 5, none⟩ = some (.slice l[i].1.hi.num.a l[i].1.hi.num.n l[i].1.hi.num.c) ∧ w.cell? ⟨b, off + i * 8 + 6, none⟩ = some (.bool l[i].1.hi.den.g) ∧ w.cell? ⟨b, off + i * 8 + 7, none⟩ = some (.slice l[i].1.hi.den.a l[i].1.hi.den.n l[i].1.hi.den.c)
theorem PAtS.later {w w' : World} {a : Option Addr} {l : List (SV × SD)} (h : PAtS w a l) (hb : Below w.heap.size w w') : PAtS w' a l := by
  rcases h with h | ⟨b, off, rfl, h1, h2⟩
  · exact .inl h
  · exact .inr ⟨b, off, rfl, Nat.lt_of_lt_of_le h1 hb.size, fun i hi => ⟨cell_later hb ((h2 i hi).1), cell_later hb ((h2 i hi).2.1), cell_later hb ((h2 i hi).2.2.1), cell_later hb ((h2 i hi).2.2.2.1), cell_later hb ((h2 i hi).2.2.2.2.1), cell_later hb ((h2 i hi).2.2.2.2.2.1), cell_later hb ((h2 i hi).2.2.2.2.2.2.1), cell_later hb ((h2 i hi).2.2.2.2.2.2.2)⟩⟩
structure PSlS (w : World) (a : Option Addr) (l : List (SV × SD)) : Prop where
  at_ : PAtS w a l
  rd : ∀ p ∈ l, AllSl w [(p.1.lo.num, p.2.lo.num), (p.1.lo.den, p.2.lo.den), (p.1.hi.num, p.2.hi.num), (p.1.hi.den, p.2.hi.den)]
theorem PSlS.later {w w' : World} {a : Option Addr} {l : List (SV × SD)} (h : PSlS w a l) (hb : Below w.heap.size w w') : PSlS w' a l := ⟨h.at_.later hb, fun p hp => (h.rd p hp).later hb⟩
/-- .. as an argument. -/
structure PArS (w : World) (a : Option Addr) (n c : Nat) (l : List (SV × SD)) : Prop where
  at_ : PAtS w a l
  rd : ∀ p ∈ l, AllAr w [(p.1.lo.num, p.2.lo.num), (p.1.lo.den, p.2.lo.den), (p.1.hi.num, p.2.hi.num), (p.1.hi.den, p.2.hi.den)]
  len : l.length = n
  cap : n ≤ c
  top : c ≤ maxLen
theorem PArS.later {w w' : World} {a : Option Addr} {n c : Nat} {l : List (SV × SD)} (h : PArS w a n c l) (hb : Below w.heap.size w w') : PArS w' a n c l := ⟨h.at_.later hb, fun p hp => (h.rd p hp).later hb, h.len, h.cap, h.top⟩
theorem PArS.sl {w : World} {a : Option Addr} {n c : Nat} {l : List (SV × SD)} (h : PArS w a n c l) : PSlS w a l := ⟨h.at_, fun p hp => (h.rd p hp).sl⟩
def lenS (p : SV × SD) : Nat := p.1.lo.num.n + p.1.lo.den.n + p.1.hi.num.n + p.1.hi.den.n
def lenPS : List (SV × SD) → Nat
  | [] => 0
  | p :: l => lenS p + lenPS l
theorem lenPS_append (l l' : List (SV × SD)) : lenPS (l ++ l') = lenPS l + lenPS l' := by
  induction l with
  | nil => simp [lenPS]
  | cons p l ih => simp only [List.cons_append, lenPS, ih]; omega
theorem lenPS_mem {l : List (SV × SD)} {p : SV × SD} (h : p ∈ l) : lenS p ≤ lenPS l := by
  induction l with
  | nil => cases h
  | cons q l ih =>
    unfold lenPS
    rcases List.mem_cons.1 h with rfl | h
    · omega
    · have := ih h; omega
/-- The numbers in some values. -/
def zipPS (l : List (SV × SD)) : List (BV × BD) := l.flatMap (fun p => [(p.1.lo.num, p.2.lo.num), (p.1.lo.den, p.2.lo.den), (p.1.hi.num, p.2.hi.num), (p.1.hi.den, p.2.hi.den)])
theorem zipPS_append (l l' : List (SV × SD)) : zipPS (l ++ l') = zipPS l ++ zipPS l' := by simp [zipPS]
theorem zipPS_one (p : SV × SD) : zipPS [p] = [(p.1.lo.num, p.2.lo.num), (p.1.lo.den, p.2.lo.den), (p.1.hi.num, p.2.hi.num), (p.1.hi.den, p.2.hi.den)] := by simp [zipPS]
theorem zipPS_mem {l : List (SV × SD)} {p : SV × SD} (h : p ∈ l) {x : BV × BD} (hx : x ∈ [(p.1.lo.num, p.2.lo.num), (p.1.lo.den, p.2.lo.den), (p.1.hi.num, p.2.hi.num), (p.1.hi.den, p.2.hi.den)]) : x ∈ zipPS l := List.mem_flatMap.2 ⟨p, h, hx⟩
theorem take_succS {l : List (SV × SD)} {i : Nat} (h : i < l.length) : l.take (i + 1) = l.take i ++ [l[i]] := (List.take_append_getElem h).symm

theorem get_sndS {l l' : List (SV × SD)} (h : l.map Prod.snd = l'.map Prod.snd) {i : Nat} (hi : i < l.length) (hi' : i < l'.length) : l[i].2 = l'[i].2 := by
  have := congrArg (fun x => x[i]?) h
  simpa [hi, hi'] using this
set_option maxHeartbeats 4000000 in
theorem eqPS (a a' : Option Addr) (n c c' : Nat) (l l' : List (SV × SD)) (w : World) (h : PSlS w a l) (h' : PSlS w a' l') (hn : l.length = n) (he : l.map Prod.snd = l'.map Prod.snd) (hm : n ≤ maxLen) (ml : ∀ p ∈ l, p.1.lo.num.n ≤ maxLen ∧ p.1.lo.den.n ≤ maxLen ∧ p.1.hi.num.n ≤ maxLen ∧ p.1.hi.den.n ≤ maxLen) :
    Calls Try.prog 9 #[.slice a n c, .slice a' n c'] w fun e w' => e = .returned (.bool true) ∧ Below w.heap.size w w' := by
  have hn' : l'.length = n := by have := congrArg List.length he; simp at this; omega
  have HS := hide h
  have HS' := hide h'
  have HN := hide hn
  have HN' := hide hn'
  have HE := hide he
  have ML := hide ml
  clear h hn ml he hn' h'
  unfold maxLen at hm
  go_enter Try.func9, Try.ntmps9
  go_wp2
  go_loopw [5] (fun iv wr => ∃ (i : Nat), i ≤ n ∧ iv = .int .i64 i ∧ Hid (Below w.heap.size w wr)) (fun iv _ => n - (intOf iv).toNat)
  case atStart => exact ⟨0, Nat.zero_le _, rfl, hide (Below.refl _ _)⟩
  case round =>
    obtain ⟨i, hi, rfl, HB⟩ := hrel
    by_cases hlt : i < n
    · have hlt' : (i : Int) < (n : Int) := by omega
      rcases (unhide HS).at_ with e | ⟨b, off, rfl, hb, hc⟩
      · exact absurd (unhide HN) (by rw [e]; simp; omega)
      have e0 := hc i (by rw [unhide HN]; exact hlt)
      obtain ⟨y, hy⟩ : ∃ y, y = l[i]'(by rw [unhide HN]; exact hlt) := ⟨_, rfl⟩
      rw [← hy] at e0
      have MY : Hid (y ∈ l) := hide (by rw [hy]; exact List.getElem_mem _)
      have EY := hide hy
      clear hy
      have E0 : wr.cell? ⟨b, off + i * 8, none⟩ = some (.bool y.1.lo.num.g) := ((unhide HB).cell (p := ⟨b, off + i * 8, none⟩) hb).trans (e0.1)
      have E1 : wr.cell? ⟨b, off + i * 8 + 1, none⟩ = some (.slice y.1.lo.num.a y.1.lo.num.n y.1.lo.num.c) := ((unhide HB).cell (p := ⟨b, off + i * 8 + 1, none⟩) hb).trans (e0.2.1)
      have E2 : wr.cell? ⟨b, off + i * 8 + 2, none⟩ = some (.bool y.1.lo.den.g) := ((unhide HB).cell (p := ⟨b, off + i * 8 + 2, none⟩) hb).trans (e0.2.2.1)
      have E3 : wr.cell? ⟨b, off + i * 8 + 3, none⟩ = some (.slice y.1.lo.den.a y.1.lo.den.n y.1.lo.den.c) := ((unhide HB).cell (p := ⟨b, off + i * 8 + 3, none⟩) hb).trans (e0.2.2.2.1)
      have E4 : wr.cell? ⟨b, off + i * 8 + 4, none⟩ = some (.bool y.1.hi.num.g) := ((unhide HB).cell (p := ⟨b, off + i * 8 + 4, none⟩) hb).trans (e0.2.2.2.2.1)
      have E5 : wr.cell? ⟨b, off + i * 8 + 5, none⟩ = some (.slice y.1.hi.num.a y.1.hi.num.n y.1.hi.num.c) := ((unhide HB).cell (p := ⟨b, off + i * 8 + 5, none⟩) hb).trans (e0.2.2.2.2.2.1)
      have E6 : wr.cell? ⟨b, off + i * 8 + 6, none⟩ = some (.bool y.1.hi.den.g) := ((unhide HB).cell (p := ⟨b, off + i * 8 + 6, none⟩) hb).trans (e0.2.2.2.2.2.2.1)
      have E7 : wr.cell? ⟨b, off + i * 8 + 7, none⟩ = some (.slice y.1.hi.den.a y.1.hi.den.n y.1.hi.den.c) := ((unhide HB).cell (p := ⟨b, off + i * 8 + 7, none⟩) hb).trans (e0.2.2.2.2.2.2.2)
      clear e0
      clear hc
      rcases (unhide HS').at_ with e | ⟨b', off', rfl, hb', hc'⟩
      · exact absurd (unhide HN') (by rw [e]; simp; omega)
      have e0 := hc' i (by rw [unhide HN']; exact hlt)
      obtain ⟨y', hy'⟩ : ∃ y, y = l'[i]'(by rw [unhide HN']; exact hlt) := ⟨_, rfl⟩
      rw [← hy'] at e0
      have MY' : Hid (y' ∈ l') := hide (by rw [hy']; exact List.getElem_mem _)
      have ED : Hid (y.2 = y'.2) := hide (by rw [unhide EY, hy']; exact get_sndS (unhide HE) _ _)
      clear hy'
      have F0 : wr.cell? ⟨b', off' + i * 8, none⟩ = some (.bool y'.1.lo.num.g) := ((unhide HB).cell (p := ⟨b', off' + i * 8, none⟩) hb').trans (e0.1)
      have F1 : wr.cell? ⟨b', off' + i * 8 + 1, none⟩ = some (.slice y'.1.lo.num.a y'.1.lo.num.n y'.1.lo.num.c) := ((unhide HB).cell (p := ⟨b', off' + i * 8 + 1, none⟩) hb').trans (e0.2.1)
      have F2 : wr.cell? ⟨b', off' + i * 8 + 2, none⟩ = some (.bool y'.1.lo.den.g) := ((unhide HB).cell (p := ⟨b', off' + i * 8 + 2, none⟩) hb').trans (e0.2.2.1)
      have F3 : wr.cell? ⟨b', off' + i * 8 + 3, none⟩ = some (.slice y'.1.lo.den.a y'.1.lo.den.n y'.1.lo.den.c) := ((unhide HB).cell (p := ⟨b', off' + i * 8 + 3, none⟩) hb').trans (e0.2.2.2.1)
      have F4 : wr.cell? ⟨b', off' + i * 8 + 4, none⟩ = some (.bool y'.1.hi.num.g) := ((unhide HB).cell (p := ⟨b', off' + i * 8 + 4, none⟩) hb').trans (e0.2.2.2.2.1)
      have F5 : wr.cell? ⟨b', off' + i * 8 + 5, none⟩ = some (.slice y'.1.hi.num.a y'.1.hi.num.n y'.1.hi.num.c) := ((unhide HB).cell (p := ⟨b', off' + i * 8 + 5, none⟩) hb').trans (e0.2.2.2.2.2.1)
      have F6 : wr.cell? ⟨b', off' + i * 8 + 6, none⟩ = some (.bool y'.1.hi.den.g) := ((unhide HB).cell (p := ⟨b', off' + i * 8 + 6, none⟩) hb').trans (e0.2.2.2.2.2.2.1)
      have F7 : wr.cell? ⟨b', off' + i * 8 + 7, none⟩ = some (.slice y'.1.hi.den.a y'.1.hi.den.n y'.1.hi.den.c) := ((unhide HB).cell (p := ⟨b', off' + i * 8 + 7, none⟩) hb').trans (e0.2.2.2.2.2.2.2)
      clear e0 hc'
      have j0 := (unhide ML) y (unhide MY)
      have R1 := hide (((unhide HS).rd y (unhide MY)).later (unhide HB))
      have R2 := hide (((unhide HS').rd y' (unhide MY')).later (unhide HB))
      go_upto_region 6 with fail
      go_region_held3 (fun w' => w'.cell? ⟨b, off + i * 8, none⟩ = some (.bool y.1.lo.num.g) ∧ w'.cell? ⟨b, off + i * 8 + 1, none⟩ = some (.slice y.1.lo.num.a y.1.lo.num.n y.1.lo.num.c) ∧ w'.cell? ⟨b, off + i * 8 + 2, none⟩ = some (.bool y.1.lo.den.g) ∧ w'.cell? ⟨b, off + i * 8 + 3, none⟩ = some (.slice y.1.lo.den.a y.1.lo.den.n y.1.lo.den.c) ∧ w'.cell? ⟨b, off + i * 8 + 4, none⟩ = some (.bool y.1.hi.num.g) ∧ w'.cell? ⟨b, off + i * 8 + 5, none⟩ = some (.slice y.1.hi.num.a y.1.hi.num.n y.1.hi.num.c) ∧ w'.cell? ⟨b, off + i * 8 + 6, none⟩ = some (.bool y.1.hi.den.g) ∧ w'.cell? ⟨b, off + i * 8 + 7, none⟩ = some (.slice y.1.hi.den.a y.1.hi.den.n y.1.hi.den.c) ∧ w'.cell? ⟨b', off' + i * 8, none⟩ = some (.bool y'.1.lo.num.g) ∧ w'.cell? ⟨b', off' + i * 8 + 1, none⟩ = some (.slice y'.1.lo.num.a y'.1.lo.num.n y'.1.lo.num.c) ∧ w'.cell? ⟨b', off' + i * 8 + 2, none⟩ = some (.bool y'.1.lo.den.g) ∧ w'.cell? ⟨b', off' + i * 8 + 3, none⟩ = some (.slice y'.1.lo.den.a y'.1.lo.den.n y'.1.lo.den.c) ∧ w'.cell? ⟨b', off' + i * 8 + 4, none⟩ = some (.bool y'.1.hi.num.g) ∧ w'.cell? ⟨b', off' + i * 8 + 5, none⟩ = some (.slice y'.1.hi.num.a y'.1.hi.num.n y'.1.hi.num.c) ∧ w'.cell? ⟨b', off' + i * 8 + 6, none⟩ = some (.bool y'.1.hi.den.g) ∧ w'.cell? ⟨b', off' + i * 8 + 7, none⟩ = some (.slice y'.1.hi.den.a y'.1.hi.den.n y'.1.hi.den.c))
        (with_reducible (first | exact ⟨E0, E1, E2, E3, E4, E5, E6, E7, F0, F1, F2, F3, F4, F5, F6, F7⟩ | exact ⟨cd_other E0, cd_other E1, cd_other E2, cd_other E3, cd_other E4, cd_other E5, cd_other E6, cd_other E7, cd_other F0, cd_other F1, cd_other F2, cd_other F3, cd_other F4, cd_other F5, cd_other F6, cd_other F7⟩ | fail))
        (first
        | (go_at_call 23; refine (eqS_at y.1 y'.1 y.2 _ ?_ ?_ j0.1 j0.2.1 j0.2.2.1 j0.2.2.2).mono ?_; exact (unhide R1).drew; (rw [unhide ED]; exact (unhide R2).drew); rintro e w1 ⟨rfl, hb1⟩; have HB1 := hide (below_on (unhide HB) (below_of_drew hb1)); have hbx := below_of_drew hb1; replace E0 := cell_later hbx E0; replace E1 := cell_later hbx E1; replace E2 := cell_later hbx E2; replace E3 := cell_later hbx E3; replace E4 := cell_later hbx E4; replace E5 := cell_later hbx E5; replace E6 := cell_later hbx E6; replace E7 := cell_later hbx E7; replace F0 := cell_later hbx F0; replace F1 := cell_later hbx F1; replace F2 := cell_later hbx F2; replace F3 := cell_later hbx F3; replace F4 := cell_later hbx F4; replace F5 := cell_later hbx F5; replace F6 := cell_later hbx F6; replace F7 := cell_later hbx F7; clear hb1 hbx))
      clear E0 F0 E1 F1 E2 F2 E3 F3 E4 F4 E5 F5 E6 F6 E7 F7
      go_wp2
      go_roundw
      case rel => exact ⟨i + 1, by omega, by go_num, HB1⟩
      case measure => simp [intOf]; omega
    · obtain rfl : i = n := by omega
      go_wp2
      go_ret
      exact ⟨rfl, unhide HB⟩

theorem but_rowS {w : World} {G k : Nat} {u : SV} : But G (G + 1) w ((((((((w.setCell ⟨G, k * 8, none⟩ (.bool u.lo.num.g)).setCell ⟨G, k * 8 + 1, none⟩ (.slice u.lo.num.a u.lo.num.n u.lo.num.c)).setCell ⟨G, k * 8 + 2, none⟩ (.bool u.lo.den.g)).setCell ⟨G, k * 8 + 3, none⟩ (.slice u.lo.den.a u.lo.den.n u.lo.den.c)).setCell ⟨G, k * 8 + 4, none⟩ (.bool u.hi.num.g)).setCell ⟨G, k * 8 + 5, none⟩ (.slice u.hi.num.a u.hi.num.n u.hi.num.c)).setCell ⟨G, k * 8 + 6, none⟩ (.bool u.hi.den.g)).setCell ⟨G, k * 8 + 7, none⟩ (.slice u.hi.den.a u.hi.den.n u.hi.den.c)) := (((((((((But.refl _ _ _).set (p := ⟨G, k * 8, none⟩) (Nat.le_refl G) (Nat.lt_succ_self G) (.bool u.lo.num.g)).set (p := ⟨G, k * 8 + 1, none⟩) (Nat.le_refl G) (Nat.lt_succ_self G) (.slice u.lo.num.a u.lo.num.n u.lo.num.c)).set (p := ⟨G, k * 8 + 2, none⟩) (Nat.le_refl G) (Nat.lt_succ_self G) (.bool u.lo.den.g)).set (p := ⟨G, k * 8 + 3, none⟩) (Nat.le_refl G) (Nat.lt_succ_self G) (.slice u.lo.den.a u.lo.den.n u.lo.den.c)).set (p := ⟨G, k * 8 + 4, none⟩) (Nat.le_refl G) (Nat.lt_succ_self G) (.bool u.hi.num.g)).set (p := ⟨G, k * 8 + 5, none⟩) (Nat.le_refl G) (Nat.lt_succ_self G) (.slice u.hi.num.a u.hi.num.n u.hi.num.c)).set (p := ⟨G, k * 8 + 6, none⟩) (Nat.le_refl G) (Nat.lt_succ_self G) (.bool u.hi.den.g)).set (p := ⟨G, k * 8 + 7, none⟩) (Nat.le_refl G) (Nat.lt_succ_self G) (.slice u.hi.den.a u.hi.den.n u.hi.den.c))

/-- Some values in a row that is the law's own, at block G; their numbers in blocks from lo to below hi. -/
structure POwS (lo hi : Nat) (w : World) (G n c : Nat) (l : List (SV × SD)) : Prop where
  row : ∃ M, w.ownsRow G 44 8 (.slice (some ⟨G, 0, none⟩) n c) n M ∧ ∀ i (h : i < l.length), M[i * 8]? = some (.bool l[i].1.lo.num.g) ∧ M[i * 8 + 1]? = some (.slice l[i].1.lo.num.a l[i].1.lo.num.n l[i].1.lo.num.c) ∧ M[i * 8 + 2]? = some (.bool l[i].1.lo.den.g) ∧ M[i * 8 + 3]? = some (.slice l[i].1.lo.den.a l[i].1.lo.den.n l[i].1.lo.den.c) ∧ M[i * 8 + 4]? = some (.bool l[i].1.hi.num.g) ∧ M[i * 8 + 5]? = some (.slice l[i].1.hi.num.a l[i].1.hi.num.n l[i].1.hi.num.c) ∧ M[i * 8 + 6]? = some (.bool l[i].1.hi.den.g) ∧ M[i * 8 + 7]? = some (.slice l[i].1.hi.den.a l[i].1.hi.den.n l[i].1.hi.den.c)
  own : AllOwn lo hi w (zipPS l)
  ar : ∀ p ∈ l, AllAr w [(p.1.lo.num, p.2.lo.num), (p.1.lo.den, p.2.lo.den), (p.1.hi.num, p.2.hi.num), (p.1.hi.den, p.2.hi.den)]
  len : l.length = n
theorem ownsRow_laterS {w w' : World} {G g n c size : Nat} {e : TypeId} {M : List Value} (h : w.ownsRow G e size (.slice (some ⟨g, 0, none⟩) n c) n M) (hb : Below w.heap.size w w') : w'.ownsRow G e size (.slice (some ⟨g, 0, none⟩) n c) n M := by
  refine ⟨h.1, ?_⟩
  rcases h.2 with ⟨h', _⟩ | ⟨g', cap, cur, hv, h1, hg, r⟩
  · simp at h'
  · refine .inr ⟨g', cap, cur, hv, h1, ?_, r⟩
    rw [hb.block g' (Array.getElem?_eq_some_iff.1 hg).1]
    exact hg
theorem POwS.later {lo hi : Nat} {w w' : World} {G n c : Nat} {l : List (SV × SD)} (h : POwS lo hi w G n c l) (hb : Below w.heap.size w w') : POwS lo hi w' G n c l := by
  obtain ⟨M, hr, hM⟩ := h.row
  exact ⟨⟨M, ownsRow_laterS hr hb, hM⟩, h.own.later hb, fun p hp => (h.ar p hp).later hb, h.len⟩
theorem POwS.arg {lo hi : Nat} {w : World} {G n c : Nat} {l : List (SV × SD)} (h : POwS lo hi w G n c l) : PArS w (some ⟨G, 0, none⟩) n c l := by
  obtain ⟨M, hr, hM⟩ := h.row
  have hl := h.len
  have h2 := hr.2
  rcases h2 with ⟨h', _⟩ | ⟨g', cap, cur, hv, h1, hg, r1, r2, r3⟩
  · simp at h'
  simp only [Value.slice.injEq, Option.some.injEq, Addr.mk.injEq, and_true, true_and] at hv
  obtain ⟨rfl, rfl⟩ := hv
  refine ⟨.inr ⟨G, 0, rfl, (Array.getElem?_eq_some_iff.1 hg).1, fun i hi => ?_⟩, h.ar, hl, r1, r2⟩
  have hc := hM i hi
  refine ⟨?_, ?_, ?_, ?_, ?_, ?_, ?_, ?_⟩ <;> rw [Nat.zero_add, hr.cellAt _ (by omega)]
  · exact hc.1
  · exact hc.2.1
  · exact hc.2.2.1
  · exact hc.2.2.2.1
  · exact hc.2.2.2.2.1
  · exact hc.2.2.2.2.2.1
  · exact hc.2.2.2.2.2.2.1
  · exact hc.2.2.2.2.2.2.2
theorem Try.info44 : (Try.prog.info? 44).map (fun i => (i.zero, i.size, i.bytes)) = some (some (.agg #[.bool false, .slice none 0 0, .bool false, .slice none 0 0, .bool false, .slice none 0 0, .bool false, .slice none 0 0]), 8, 128) := by kernel_rfl
theorem set_rowS {M : List Value} {us : List (SV × SD)} {n k : Nat} {u : SV} {d : SD} (hM : M.length = n * 8) (hk : k < n) (hu : us.length = k) (h : ∀ i (h : i < us.length), M[i * 8]? = some (.bool us[i].1.lo.num.g) ∧ M[i * 8 + 1]? = some (.slice us[i].1.lo.num.a us[i].1.lo.num.n us[i].1.lo.num.c) ∧ M[i * 8 + 2]? = some (.bool us[i].1.lo.den.g) ∧ M[i * 8 + 3]? = some (.slice us[i].1.lo.den.a us[i].1.lo.den.n us[i].1.lo.den.c) ∧ M[i * 8 + 4]? = some (.bool us[i].1.hi.num.g) ∧ M[i * 8 + 5]? = some (.slice us[i].1.hi.num.a us[i].1.hi.num.n us[i].1.hi.num.c) ∧ M[i * 8 + 6]? = some (.bool us[i].1.hi.den.g) ∧ M[i * 8 + 7]? = some (.slice us[i].1.hi.den.a us[i].1.hi.den.n us[i].1.hi.den.c)) :
    ∀ i (h : i < (us ++ [(u, d)]).length), ((((((((M.set (k * 8) (.bool u.lo.num.g)).set (k * 8 + 1) (.slice u.lo.num.a u.lo.num.n u.lo.num.c)).set (k * 8 + 2) (.bool u.lo.den.g)).set (k * 8 + 3) (.slice u.lo.den.a u.lo.den.n u.lo.den.c)).set (k * 8 + 4) (.bool u.hi.num.g)).set (k * 8 + 5) (.slice u.hi.num.a u.hi.num.n u.hi.num.c)).set (k * 8 + 6) (.bool u.hi.den.g)).set (k * 8 + 7) (.slice u.hi.den.a u.hi.den.n u.hi.den.c))[i * 8]? = some (.bool (us ++ [(u, d)])[i].1.lo.num.g) ∧ ((((((((M.set (k * 8) (.bool u.lo.num.g)).set (k * 8 + 1) (.slice u.lo.num.a u.lo.num.n u.lo.num.c)).set (k * 8 + 2) (.bool u.lo.den.g)).set (k * 8 + 3) (.slice u.lo.den.a u.lo.den.n u.lo.den.c)).set (k * 8 + 4) (.bool u.hi.num.g)).set (k * 8 + 5) (.slice u.hi.num.a u.hi.num.n u.hi.num.c)).set (k * 8 + 6) (.bool u.hi.den.g)).set (k * 8 + 7) (.slice u.hi.den.a u.hi.den.n u.hi.den.c))[i * 8 + 1]? = some (.slice (us ++ [(u, d)])[i].1.lo.num.a (us ++ [(u, d)])[i].1.lo.num.n (us ++ [(u, d)])[i].1.lo.num.c) ∧ ((((((((M.set (k * 8) (.bool u.lo.num.g)).set (k * 8 + 1) (.slice u.lo.num.a u.lo.num.n u.lo.num.c)).set (k * 8 + 2) (.bool u.lo.den.g)).set (k * 8 + 3) (.slice u.lo.den.a u.lo.den.n u.lo.den.c)).set (k * 8 + 4) (.bool u.hi.num.g)).set (k * 8 + 5) (.slice u.hi.num.a u.hi.num.n u.hi.num.c)).set (k * 8 + 6) (.bool u.hi.den.g)).set (k * 8 + 7) (.slice u.hi.den.a u.hi.den.n u.hi.den.c))[i * 8 + 2]? = some (.bool (us ++ [(u, d)])[i].1.lo.den.g) ∧ ((((((((M.set (k * 8) (.bool u.lo.num.g)).set (k * 8 + 1) (.slice u.lo.num.a u.lo.num.n u.lo.num.c)).set (k * 8 + 2) (.bool u.lo.den.g)).set (k * 8 + 3) (.slice u.lo.den.a u.lo.den.n u.lo.den.c)).set (k * 8 + 4) (.bool u.hi.num.g)).set (k * 8 + 5) (.slice u.hi.num.a u.hi.num.n u.hi.num.c)).set (k * 8 + 6) (.bool u.hi.den.g)).set (k * 8 + 7) (.slice u.hi.den.a u.hi.den.n u.hi.den.c))[i * 8 + 3]? = some (.slice (us ++ [(u, d)])[i].1.lo.den.a (us ++ [(u, d)])[i].1.lo.den.n (us ++ [(u, d)])[i].1.lo.den.c) ∧ ((((((((M.set (k * 8) (.bool u.lo.num.g)).set (k * 8 + 1) (.slice u.lo.num.a u.lo.num.n u.lo.num.c)).set (k * 8 + 2) (.bool u.lo.den.g)).set (k * 8 + 3) (.slice u.lo.den.a u.lo.den.n u.lo.den.c)).set (k * 8 + 4) (.bool u.hi.num.g)).set (k * 8 + 5) (.slice u.hi.num.a u.hi.num.n u.hi.num.c)).set (k * 8 + 6) (.bool u.hi.den.g)).set (k * 8 + 7) (.slice u.hi.den.a u.hi.den.n u.hi.den.c))[i * 8 + 4]? = some (.bool (us ++ [(u, d)])[i].1.hi.num.g) ∧ ((((((((M.set (k * 8) (.bool u.lo.num.g)).set (k * 8 + 1) (.slice u.lo.num.a u.lo.num.n u.lo.num.c)).set (k * 8 + 2) (.bool u.lo.den.g)).set (k * 8 + 3) (.slice u.lo.den.a u.lo.den.n u.lo.den.c)).set (k * 8 + 4) (.bool u.hi.num.g)).set (k * 8 + 5) (.slice u.hi.num.a u.hi.num.n u.hi.num.c)).set (k * 8 + 6) (.bool u.hi.den.g)).set (k * 8 + 7) (.slice u.hi.den.a u.hi.den.n u.hi.den.c))[i * 8 + 5]? = some (.slice (us ++ [(u, d)])[i].1.hi.num.a (us ++ [(u, d)])[i].1.hi.num.n (us ++ [(u, d)])[i].1.hi.num.c) ∧ ((((((((M.set (k * 8) (.bool u.lo.num.g)).set (k * 8 + 1) (.slice u.lo.num.a u.lo.num.n u.lo.num.c)).set (k * 8 + 2) (.bool u.lo.den.g)).set (k * 8 + 3) (.slice u.lo.den.a u.lo.den.n u.lo.den.c)).set (k * 8 + 4) (.bool u.hi.num.g)).set (k * 8 + 5) (.slice u.hi.num.a u.hi.num.n u.hi.num.c)).set (k * 8 + 6) (.bool u.hi.den.g)).set (k * 8 + 7) (.slice u.hi.den.a u.hi.den.n u.hi.den.c))[i * 8 + 6]? = some (.bool (us ++ [(u, d)])[i].1.hi.den.g) ∧ ((((((((M.set (k * 8) (.bool u.lo.num.g)).set (k * 8 + 1) (.slice u.lo.num.a u.lo.num.n u.lo.num.c)).set (k * 8 + 2) (.bool u.lo.den.g)).set (k * 8 + 3) (.slice u.lo.den.a u.lo.den.n u.lo.den.c)).set (k * 8 + 4) (.bool u.hi.num.g)).set (k * 8 + 5) (.slice u.hi.num.a u.hi.num.n u.hi.num.c)).set (k * 8 + 6) (.bool u.hi.den.g)).set (k * 8 + 7) (.slice u.hi.den.a u.hi.den.n u.hi.den.c))[i * 8 + 7]? = some (.slice (us ++ [(u, d)])[i].1.hi.den.a (us ++ [(u, d)])[i].1.hi.den.n (us ++ [(u, d)])[i].1.hi.den.c) := by
  intro i hi
  by_cases e : i < k
  · have hi' : i < us.length := by omega
    have h1 := h i hi'
    rw [List.getElem_append_left hi']
    simp only [List.getElem?_set]
    refine ⟨?_, ?_, ?_, ?_, ?_, ?_, ?_, ?_⟩
    · rw [if_neg (by omega), if_neg (by omega), if_neg (by omega), if_neg (by omega), if_neg (by omega), if_neg (by omega), if_neg (by omega), if_neg (by omega)]; exact h1.1
    · rw [if_neg (by omega), if_neg (by omega), if_neg (by omega), if_neg (by omega), if_neg (by omega), if_neg (by omega), if_neg (by omega), if_neg (by omega)]; exact h1.2.1
    · rw [if_neg (by omega), if_neg (by omega), if_neg (by omega), if_neg (by omega), if_neg (by omega), if_neg (by omega), if_neg (by omega), if_neg (by omega)]; exact h1.2.2.1
    · rw [if_neg (by omega), if_neg (by omega), if_neg (by omega), if_neg (by omega), if_neg (by omega), if_neg (by omega), if_neg (by omega), if_neg (by omega)]; exact h1.2.2.2.1
    · rw [if_neg (by omega), if_neg (by omega), if_neg (by omega), if_neg (by omega), if_neg (by omega), if_neg (by omega), if_neg (by omega), if_neg (by omega)]; exact h1.2.2.2.2.1
    · rw [if_neg (by omega), if_neg (by omega), if_neg (by omega), if_neg (by omega), if_neg (by omega), if_neg (by omega), if_neg (by omega), if_neg (by omega)]; exact h1.2.2.2.2.2.1
    · rw [if_neg (by omega), if_neg (by omega), if_neg (by omega), if_neg (by omega), if_neg (by omega), if_neg (by omega), if_neg (by omega), if_neg (by omega)]; exact h1.2.2.2.2.2.2.1
    · rw [if_neg (by omega), if_neg (by omega), if_neg (by omega), if_neg (by omega), if_neg (by omega), if_neg (by omega), if_neg (by omega), if_neg (by omega)]; exact h1.2.2.2.2.2.2.2
  · obtain rfl : i = k := by simp at hi; omega
    subst hu
    rw [List.getElem_append_right (Nat.le_refl _)]
    simp only [Nat.sub_self, List.getElem_cons_zero]
    refine ⟨?_, ?_, ?_, ?_, ?_, ?_, ?_, ?_⟩
    · simp only [List.getElem?_set, List.length_set]; rw [if_neg (by omega), if_neg (by omega), if_neg (by omega), if_neg (by omega), if_neg (by omega), if_neg (by omega), if_neg (by omega)]; rw [if_pos trivial, if_pos (by omega)]
    · simp only [List.getElem?_set, List.length_set]; rw [if_neg (by omega), if_neg (by omega), if_neg (by omega), if_neg (by omega), if_neg (by omega), if_neg (by omega)]; rw [if_pos trivial, if_pos (by omega)]
    · simp only [List.getElem?_set, List.length_set]; rw [if_neg (by omega), if_neg (by omega), if_neg (by omega), if_neg (by omega), if_neg (by omega)]; rw [if_pos trivial, if_pos (by omega)]
    · simp only [List.getElem?_set, List.length_set]; rw [if_neg (by omega), if_neg (by omega), if_neg (by omega), if_neg (by omega)]; rw [if_pos trivial, if_pos (by omega)]
    · simp only [List.getElem?_set, List.length_set]; rw [if_neg (by omega), if_neg (by omega), if_neg (by omega)]; rw [if_pos trivial, if_pos (by omega)]
    · simp only [List.getElem?_set, List.length_set]; rw [if_neg (by omega), if_neg (by omega)]; rw [if_pos trivial, if_pos (by omega)]
    · simp only [List.getElem?_set, List.length_set]; rw [if_neg (by omega)]; rw [if_pos trivial, if_pos (by omega)]
    · simp only [List.getElem?_set, List.length_set]; rw [if_pos trivial, if_pos (by omega)]

end Go.Proofs.Ytokajpeopijneaa
namespace Go.Proofs.Ytokajpeopijneaa
open Go.RowKit
set_option linter.unusedVariables false
set_option maxRecDepth 100000
set_option linter.unusedSimpArgs false

/-- At most 2 limbs each; a good fraction of so few. -/
def smk (K : Nat) (d : QD) : Bool := decide (d.num.xs.length ≤ K) && decide (d.den.xs.length ≤ K)
def sm2 (d : QD) : Bool := decide (d.num.xs.length ≤ 2) && decide (d.den.xs.length ≤ 2)
def gF (d : QD) : Bool := sm2 d && gQ d
def gPt2 (d : SD) : Bool := gF d.lo && gF d.hi
def many (n : Nat) : Bool := decide (1 ≤ n) && decide (n ≤ 5)
def gCv (l : List SD) : Bool := many l.length && l.all gPt2
def lgP (d : SD) : Bool := !sm2 d.lo || !sm2 d.hi
def bdP (d : SD) : Bool := !gQ d.lo || !gQ d.hi
theorem gCv_parts (l : List SD) : gCv l = ((many l.length && !l.any lgP) && !l.any bdP) := by
  unfold gCv
  have h : l.all gPt2 = (!l.any lgP && !l.any bdP) := by
    induction l with
    | nil => rfl
    | cons d l ih =>
      simp only [List.all_cons, List.any_cons, ih]
      unfold gPt2 gF lgP bdP
      cases sm2 d.lo <;> cases sm2 d.hi <;> cases gQ d.lo <;> cases gQ d.hi <;> simp
  rw [h, Bool.and_assoc]

theorem manyI (n : Nat) (w : World) (hm : n ≤ maxLen) : Calls Try.prog 20 #[.int .i64 (n : Int)] w fun e w' => e = .returned (.bool (many n)) ∧ w' = w := by
  unfold maxLen at hm
  unfold many
  by_cases c1 : 1 ≤ n
  · have b1 : (1 : Int) ≤ (n : Int) := by omega
    by_cases c2 : n ≤ 5
    · have b2 : (n : Int) ≤ 5 := by omega
      rw [decide_eq_true c1, decide_eq_true c2]
      go_enter Try.func20, Try.ntmps20
      go_wp2
      go_ret
      exact ⟨rfl, rfl⟩
    · have b2 : ¬ ((n : Int) ≤ 5) := by omega
      have b3 : (5 : Int) < (n : Int) := by omega
      rw [decide_eq_true c1, decide_eq_false c2]
      go_enter Try.func20, Try.ntmps20
      go_wp2
      go_ret
      exact ⟨rfl, rfl⟩
  · have b1 : ¬ ((1 : Int) ≤ (n : Int)) := by omega
    have b3 : (n : Int) < 1 := by omega
    rw [decide_eq_false c1]
    go_enter Try.func20, Try.ntmps20
    go_wp2
    go_ret
    exact ⟨rfl, rfl⟩

end Go.Proofs.Ytokajpeopijneaa
namespace Go.Proofs.Ytokajpeopijneaa
open Go.RowKit
set_option linter.unusedVariables false
set_option maxRecDepth 100000
set_option linter.unusedSimpArgs false

def RetSin (lo hi : Nat) (w : World) (U : SD → Bool → Prop) (e : Ending) (w' : World) : Prop := ∃ (v : SV) (d : SD) (ok : Bool), e = .returned (.tuple #[.agg #[.bool v.lo.num.g, .slice v.lo.num.a v.lo.num.n v.lo.num.c, .bool v.lo.den.g, .slice v.lo.den.a v.lo.den.n v.lo.den.c, .bool v.hi.num.g, .slice v.hi.num.a v.hi.num.n v.hi.num.c, .bool v.hi.den.g, .slice v.hi.den.a v.hi.den.n v.hi.den.c], .bool ok]) ∧ Below w.heap.size w w' ∧ AllOwn lo hi w' [(v.lo.num, d.lo.num), (v.lo.den, d.lo.den), (v.hi.num, d.hi.num), (v.hi.den, d.hi.den)] ∧ U d ok
end Go.Proofs.Ytokajpeopijneaa
namespace Go.Proofs.Ytokajpeopijneaa
open Go.RowKit
set_option linter.unusedVariables false
set_option maxRecDepth 100000
set_option linter.unusedSimpArgs false

theorem parS_two {w : World} {a b : SV} {da db : SD} (h : AllAr w [(a.lo.num, da.lo.num), (a.lo.den, da.lo.den), (a.hi.num, da.hi.num), (a.hi.den, da.hi.den)]) (k : AllAr w [(b.lo.num, db.lo.num), (b.lo.den, db.lo.den), (b.hi.num, db.hi.num), (b.hi.den, db.hi.den)]) : PArS (w.alloc (.cells #[.bool a.lo.num.g, .slice a.lo.num.a a.lo.num.n a.lo.num.c, .bool a.lo.den.g, .slice a.lo.den.a a.lo.den.n a.lo.den.c, .bool a.hi.num.g, .slice a.hi.num.a a.hi.num.n a.hi.num.c, .bool a.hi.den.g, .slice a.hi.den.a a.hi.den.n a.hi.den.c, .bool b.lo.num.g, .slice b.lo.num.a b.lo.num.n b.lo.num.c, .bool b.lo.den.g, .slice b.lo.den.a b.lo.den.n b.lo.den.c, .bool b.hi.num.g, .slice b.hi.num.a b.hi.num.n b.hi.num.c, .bool b.hi.den.g, .slice b.hi.den.a b.hi.den.n b.hi.den.c] 44)) (some ⟨w.heap.size, 0, none⟩) 2 2 [(a, da), (b, db)] := by
  have al : Below w.heap.size w (w.alloc (.cells #[.bool a.lo.num.g, .slice a.lo.num.a a.lo.num.n a.lo.num.c, .bool a.lo.den.g, .slice a.lo.den.a a.lo.den.n a.lo.den.c, .bool a.hi.num.g, .slice a.hi.num.a a.hi.num.n a.hi.num.c, .bool a.hi.den.g, .slice a.hi.den.a a.hi.den.n a.hi.den.c, .bool b.lo.num.g, .slice b.lo.num.a b.lo.num.n b.lo.num.c, .bool b.lo.den.g, .slice b.lo.den.a b.lo.den.n b.lo.den.c, .bool b.hi.num.g, .slice b.hi.num.a b.hi.num.n b.hi.num.c, .bool b.hi.den.g, .slice b.hi.den.a b.hi.den.n b.hi.den.c] 44)) := (Below.refl _ _).alloc (Nat.le_refl _) _
  refine ⟨.inr ⟨w.heap.size, 0, rfl, by simp, fun i hi => ?_⟩, fun p hp => ?_, rfl, Nat.le_refl _, by unfold maxLen; omega⟩
  · match i, hi with
    | 0, _ => refine ⟨?_, ?_, ?_, ?_, ?_, ?_, ?_, ?_⟩ <;> simp [go_sem]
    | 1, _ => refine ⟨?_, ?_, ?_, ?_, ?_, ?_, ?_, ?_⟩ <;> simp [go_sem]
  · rcases List.mem_cons.1 hp with rfl | hp
    · exact h.later al
    · obtain rfl := List.mem_singleton.1 hp
      exact k.later al
theorem bdR_good {w : World} {q : QV} {d : QD} (j : IsGood w q d) : BdR (vQ d) 40 := by
  have h := vQ_good j
  exact ⟨by rw [← h.1]; exact j.kn, by rw [← h.2]; exact j.kd⟩
theorem gF_good {w : World} {q : QV} {d : QD} (h : AllAr w [(q.num, d.num), (q.den, d.den)]) (hg : gF d = true) : IsGood w q d := isGood_of h (by unfold gF at hg; simp only [Bool.and_eq_true] at hg; exact hg.2)
/-- A point's values. -/
def vP (d : SD) : Rat × Rat := (vQ d.lo, vQ d.hi)
theorem isPt_good {w : World} {v : SV} {d : SD} (h : AllAr w [(v.lo.num, d.lo.num), (v.lo.den, d.lo.den), (v.hi.num, d.hi.num), (v.hi.den, d.hi.den)]) (hg : gPt2 d = true) : IsPt w v (vP d) ∧ BdP (vP d) 40 := by
  unfold gPt2 at hg
  simp only [Bool.and_eq_true] at hg
  have j1 := gF_good (AllAr.cons h.head (AllAr.cons h.tail.head (AllAr.nil _))) hg.1
  have j2 := gF_good (AllAr.cons h.tail.tail.head (AllAr.cons h.tail.tail.tail.head (AllAr.nil _))) hg.2
  exact ⟨⟨isR_good j1, isR_good j2⟩, ⟨bdR_good j1, bdR_good j2⟩⟩
/-- Two points mixed. -/
def mx (z x y : Rat) : Rat := (((1 : Int) : Rat) - z) * x + z * y
theorem mx_eq (z x y : Rat) : x + z * (y - x) = mx z x y := by
  unfold mx
  rw [show ((1 : Int) : Rat) = 1 from rfl]
  grind
def mxP (z : Rat) (p q : Rat × Rat) : Rat × Rat := (mx z p.1 q.1, mx z p.2 q.2)
theorem BdR.mx {z x y : Rat} {L K : Nat} (hz : BdR z 2000) (h : BdR x L) (k : BdR y L) : BdR (mx z x y) (2 * L + 4003 + 2 * 0) := by
  unfold Go.Proofs.Ytokajpeopijneaa.mx
  exact (((((bdR_int (n := 1) (by omega) (by omega)).sub hz).mul h).add (hz.mul k)).mono (by omega))

end Go.Proofs.Ytokajpeopijneaa
namespace Go.Proofs.Ytokajpeopijneaa
open Go.RowKit
set_option linter.unusedVariables false
set_option maxRecDepth 100000
set_option linter.unusedSimpArgs false

/-- The cells of some values in a row. -/
def PAtQ (w : World) (a : Option Addr) (l : List (QV × QD)) : Prop := l = [] ∨ ∃ b off, a = some ⟨b, off, none⟩ ∧ b < w.heap.size ∧ ∀ i (h : i < l.length), w.cell? ⟨b, off + i * 4, none⟩ = some (.bool l[i].1.num.g) ∧ w.cell? ⟨b, off + i * 4 + 1, none⟩ = some (.slice l[i].1.num.a l[i].1.num.n l[i].1.num.c) ∧ w.cell? ⟨b, off + i * 4 + 2, none⟩ = some (.bool l[i].1.den.g) ∧ w.cell? ⟨b, off + i * 4 + 3, none⟩ = some (.slice l[i].1.den.a l[i].1.den.n l[i].1.den.c)
theorem PAtQ.later {w w' : World} {a : Option Addr} {l : List (QV × QD)} (h : PAtQ w a l) (hb : Below w.heap.size w w') : PAtQ w' a l := by
  rcases h with h | ⟨b, off, rfl, h1, h2⟩
  · exact .inl h
  · exact .inr ⟨b, off, rfl, Nat.lt_of_lt_of_le h1 hb.size, fun i hi => ⟨cell_later hb ((h2 i hi).1), cell_later hb ((h2 i hi).2.1), cell_later hb ((h2 i hi).2.2.1), cell_later hb ((h2 i hi).2.2.2)⟩⟩
structure PSlQ (w : World) (a : Option Addr) (l : List (QV × QD)) : Prop where
  at_ : PAtQ w a l
  rd : ∀ p ∈ l, AllSl w [(p.1.num, p.2.num), (p.1.den, p.2.den)]
theorem PSlQ.later {w w' : World} {a : Option Addr} {l : List (QV × QD)} (h : PSlQ w a l) (hb : Below w.heap.size w w') : PSlQ w' a l := ⟨h.at_.later hb, fun p hp => (h.rd p hp).later hb⟩
/-- .. as an argument. -/
structure PArQ (w : World) (a : Option Addr) (n c : Nat) (l : List (QV × QD)) : Prop where
  at_ : PAtQ w a l
  rd : ∀ p ∈ l, AllAr w [(p.1.num, p.2.num), (p.1.den, p.2.den)]
  len : l.length = n
  cap : n ≤ c
  top : c ≤ maxLen
theorem PArQ.later {w w' : World} {a : Option Addr} {n c : Nat} {l : List (QV × QD)} (h : PArQ w a n c l) (hb : Below w.heap.size w w') : PArQ w' a n c l := ⟨h.at_.later hb, fun p hp => (h.rd p hp).later hb, h.len, h.cap, h.top⟩
theorem PArQ.sl {w : World} {a : Option Addr} {n c : Nat} {l : List (QV × QD)} (h : PArQ w a n c l) : PSlQ w a l := ⟨h.at_, fun p hp => (h.rd p hp).sl⟩
def lenQ (p : QV × QD) : Nat := p.1.num.n + p.1.den.n
def lenPQ : List (QV × QD) → Nat
  | [] => 0
  | p :: l => lenQ p + lenPQ l
theorem lenPQ_append (l l' : List (QV × QD)) : lenPQ (l ++ l') = lenPQ l + lenPQ l' := by
  induction l with
  | nil => simp [lenPQ]
  | cons p l ih => simp only [List.cons_append, lenPQ, ih]; omega
theorem lenPQ_mem {l : List (QV × QD)} {p : QV × QD} (h : p ∈ l) : lenQ p ≤ lenPQ l := by
  induction l with
  | nil => cases h
  | cons q l ih =>
    unfold lenPQ
    rcases List.mem_cons.1 h with rfl | h
    · omega
    · have := ih h; omega
/-- The numbers in some values. -/
def zipPQ (l : List (QV × QD)) : List (BV × BD) := l.flatMap (fun p => [(p.1.num, p.2.num), (p.1.den, p.2.den)])
theorem zipPQ_append (l l' : List (QV × QD)) : zipPQ (l ++ l') = zipPQ l ++ zipPQ l' := by simp [zipPQ]
theorem zipPQ_one (p : QV × QD) : zipPQ [p] = [(p.1.num, p.2.num), (p.1.den, p.2.den)] := by simp [zipPQ]
theorem zipPQ_mem {l : List (QV × QD)} {p : QV × QD} (h : p ∈ l) {x : BV × BD} (hx : x ∈ [(p.1.num, p.2.num), (p.1.den, p.2.den)]) : x ∈ zipPQ l := List.mem_flatMap.2 ⟨p, h, hx⟩
theorem take_succQ {l : List (QV × QD)} {i : Nat} (h : i < l.length) : l.take (i + 1) = l.take i ++ [l[i]] := (List.take_append_getElem h).symm

theorem get_sndQ {l l' : List (QV × QD)} (h : l.map Prod.snd = l'.map Prod.snd) {i : Nat} (hi : i < l.length) (hi' : i < l'.length) : l[i].2 = l'[i].2 := by
  have := congrArg (fun x => x[i]?) h
  simpa [hi, hi'] using this
theorem but_rowQ {w : World} {G k : Nat} {u : QV} : But G (G + 1) w ((((w.setCell ⟨G, k * 4, none⟩ (.bool u.num.g)).setCell ⟨G, k * 4 + 1, none⟩ (.slice u.num.a u.num.n u.num.c)).setCell ⟨G, k * 4 + 2, none⟩ (.bool u.den.g)).setCell ⟨G, k * 4 + 3, none⟩ (.slice u.den.a u.den.n u.den.c)) := (((((But.refl _ _ _).set (p := ⟨G, k * 4, none⟩) (Nat.le_refl G) (Nat.lt_succ_self G) (.bool u.num.g)).set (p := ⟨G, k * 4 + 1, none⟩) (Nat.le_refl G) (Nat.lt_succ_self G) (.slice u.num.a u.num.n u.num.c)).set (p := ⟨G, k * 4 + 2, none⟩) (Nat.le_refl G) (Nat.lt_succ_self G) (.bool u.den.g)).set (p := ⟨G, k * 4 + 3, none⟩) (Nat.le_refl G) (Nat.lt_succ_self G) (.slice u.den.a u.den.n u.den.c))

/-- Some values in a row that is the law's own, at block G; their numbers in blocks from lo to below hi. -/
structure POwQ (lo hi : Nat) (w : World) (G n c : Nat) (l : List (QV × QD)) : Prop where
  row : ∃ M, w.ownsRow G 42 4 (.slice (some ⟨G, 0, none⟩) n c) n M ∧ ∀ i (h : i < l.length), M[i * 4]? = some (.bool l[i].1.num.g) ∧ M[i * 4 + 1]? = some (.slice l[i].1.num.a l[i].1.num.n l[i].1.num.c) ∧ M[i * 4 + 2]? = some (.bool l[i].1.den.g) ∧ M[i * 4 + 3]? = some (.slice l[i].1.den.a l[i].1.den.n l[i].1.den.c)
  own : AllOwn lo hi w (zipPQ l)
  ar : ∀ p ∈ l, AllAr w [(p.1.num, p.2.num), (p.1.den, p.2.den)]
  len : l.length = n
theorem ownsRow_later {w w' : World} {G g n c size : Nat} {e : TypeId} {M : List Value} (h : w.ownsRow G e size (.slice (some ⟨g, 0, none⟩) n c) n M) (hb : Below w.heap.size w w') : w'.ownsRow G e size (.slice (some ⟨g, 0, none⟩) n c) n M := by
  refine ⟨h.1, ?_⟩
  rcases h.2 with ⟨h', _⟩ | ⟨g', cap, cur, hv, h1, hg, r⟩
  · simp at h'
  · refine .inr ⟨g', cap, cur, hv, h1, ?_, r⟩
    rw [hb.block g' (Array.getElem?_eq_some_iff.1 hg).1]
    exact hg
theorem POwQ.later {lo hi : Nat} {w w' : World} {G n c : Nat} {l : List (QV × QD)} (h : POwQ lo hi w G n c l) (hb : Below w.heap.size w w') : POwQ lo hi w' G n c l := by
  obtain ⟨M, hr, hM⟩ := h.row
  exact ⟨⟨M, ownsRow_later hr hb, hM⟩, h.own.later hb, fun p hp => (h.ar p hp).later hb, h.len⟩
theorem POwQ.arg {lo hi : Nat} {w : World} {G n c : Nat} {l : List (QV × QD)} (h : POwQ lo hi w G n c l) : PArQ w (some ⟨G, 0, none⟩) n c l := by
  obtain ⟨M, hr, hM⟩ := h.row
  have hl := h.len
  have h2 := hr.2
  rcases h2 with ⟨h', _⟩ | ⟨g', cap, cur, hv, h1, hg, r1, r2, r3⟩
  · simp at h'
  simp only [Value.slice.injEq, Option.some.injEq, Addr.mk.injEq, and_true, true_and] at hv
  obtain ⟨rfl, rfl⟩ := hv
  refine ⟨.inr ⟨G, 0, rfl, (Array.getElem?_eq_some_iff.1 hg).1, fun i hi => ?_⟩, h.ar, hl, r1, r2⟩
  have hc := hM i hi
  refine ⟨?_, ?_, ?_, ?_⟩ <;> rw [Nat.zero_add, hr.cellAt _ (by omega)]
  · exact hc.1
  · exact hc.2.1
  · exact hc.2.2.1
  · exact hc.2.2.2
theorem Try.info42 : (Try.prog.info? 42).map (fun i => (i.zero, i.size, i.bytes)) = some (some (.agg #[.bool false, .slice none 0 0, .bool false, .slice none 0 0]), 4, 64) := by kernel_rfl
theorem set_rowQ {M : List Value} {us : List (QV × QD)} {n k : Nat} {u : QV} {d : QD} (hM : M.length = n * 4) (hk : k < n) (hu : us.length = k) (h : ∀ i (h : i < us.length), M[i * 4]? = some (.bool us[i].1.num.g) ∧ M[i * 4 + 1]? = some (.slice us[i].1.num.a us[i].1.num.n us[i].1.num.c) ∧ M[i * 4 + 2]? = some (.bool us[i].1.den.g) ∧ M[i * 4 + 3]? = some (.slice us[i].1.den.a us[i].1.den.n us[i].1.den.c)) :
    ∀ i (h : i < (us ++ [(u, d)]).length), ((((M.set (k * 4) (.bool u.num.g)).set (k * 4 + 1) (.slice u.num.a u.num.n u.num.c)).set (k * 4 + 2) (.bool u.den.g)).set (k * 4 + 3) (.slice u.den.a u.den.n u.den.c))[i * 4]? = some (.bool (us ++ [(u, d)])[i].1.num.g) ∧ ((((M.set (k * 4) (.bool u.num.g)).set (k * 4 + 1) (.slice u.num.a u.num.n u.num.c)).set (k * 4 + 2) (.bool u.den.g)).set (k * 4 + 3) (.slice u.den.a u.den.n u.den.c))[i * 4 + 1]? = some (.slice (us ++ [(u, d)])[i].1.num.a (us ++ [(u, d)])[i].1.num.n (us ++ [(u, d)])[i].1.num.c) ∧ ((((M.set (k * 4) (.bool u.num.g)).set (k * 4 + 1) (.slice u.num.a u.num.n u.num.c)).set (k * 4 + 2) (.bool u.den.g)).set (k * 4 + 3) (.slice u.den.a u.den.n u.den.c))[i * 4 + 2]? = some (.bool (us ++ [(u, d)])[i].1.den.g) ∧ ((((M.set (k * 4) (.bool u.num.g)).set (k * 4 + 1) (.slice u.num.a u.num.n u.num.c)).set (k * 4 + 2) (.bool u.den.g)).set (k * 4 + 3) (.slice u.den.a u.den.n u.den.c))[i * 4 + 3]? = some (.slice (us ++ [(u, d)])[i].1.den.a (us ++ [(u, d)])[i].1.den.n (us ++ [(u, d)])[i].1.den.c) := by
  intro i hi
  by_cases e : i < k
  · have hi' : i < us.length := by omega
    have h1 := h i hi'
    rw [List.getElem_append_left hi']
    simp only [List.getElem?_set]
    refine ⟨?_, ?_, ?_, ?_⟩
    · rw [if_neg (by omega), if_neg (by omega), if_neg (by omega), if_neg (by omega)]; exact h1.1
    · rw [if_neg (by omega), if_neg (by omega), if_neg (by omega), if_neg (by omega)]; exact h1.2.1
    · rw [if_neg (by omega), if_neg (by omega), if_neg (by omega), if_neg (by omega)]; exact h1.2.2.1
    · rw [if_neg (by omega), if_neg (by omega), if_neg (by omega), if_neg (by omega)]; exact h1.2.2.2
  · obtain rfl : i = k := by simp at hi; omega
    subst hu
    rw [List.getElem_append_right (Nat.le_refl _)]
    simp only [Nat.sub_self, List.getElem_cons_zero]
    refine ⟨?_, ?_, ?_, ?_⟩
    · simp only [List.getElem?_set, List.length_set]; rw [if_neg (by omega), if_neg (by omega), if_neg (by omega)]; rw [if_pos trivial, if_pos (by omega)]
    · simp only [List.getElem?_set, List.length_set]; rw [if_neg (by omega), if_neg (by omega)]; rw [if_pos trivial, if_pos (by omega)]
    · simp only [List.getElem?_set, List.length_set]; rw [if_neg (by omega)]; rw [if_pos trivial, if_pos (by omega)]
    · simp only [List.getElem?_set, List.length_set]; rw [if_pos trivial, if_pos (by omega)]

end Go.Proofs.Ytokajpeopijneaa
namespace Go.Proofs.Ytokajpeopijneaa
open Go.RowKit
set_option linter.unusedVariables false
set_option maxRecDepth 100000
set_option linter.unusedSimpArgs false

/-- The mark that stands for a sign. -/
def sg (k : Int) : Bool := (k % 3 == 0)
/-- The cells of some fractions from block G's start on. -/
def RowQ (w : World) (G : Nat) (l : List (QV × QD)) : Prop := ∃ cur, w.heap[G]? = some (.cells cur 42 (0, 0)) ∧ ∀ j p, l[j]? = some p → cur[j * 4]? = some (.bool p.1.num.g) ∧ cur[j * 4 + 1]? = some (.slice p.1.num.a p.1.num.n p.1.num.c) ∧ cur[j * 4 + 2]? = some (.bool p.1.den.g) ∧ cur[j * 4 + 3]? = some (.slice p.1.den.a p.1.den.n p.1.den.c)
theorem mid_ne {α : Type} {pre post : List α} {y y' : α} {j : Nat} (h : j ≠ pre.length) : (pre ++ y :: post)[j]? = (pre ++ y' :: post)[j]? := by
  by_cases c : j < pre.length
  · rw [List.getElem?_append_left c, List.getElem?_append_left c]
  · rw [List.getElem?_append_right (by omega), List.getElem?_append_right (by omega)]
    obtain ⟨m, hm⟩ : ∃ m, j - pre.length = m + 1 := ⟨j - pre.length - 1, by omega⟩
    rw [hm, List.getElem?_cons_succ, List.getElem?_cons_succ]
theorem mid_eq {α : Type} {pre post : List α} {y : α} : (pre ++ y :: post)[pre.length]? = some y := by
  rw [List.getElem?_append_right (Nat.le_refl _), Nat.sub_self]; rfl
theorem RowQ.lt {w : World} {G : Nat} {l : List (QV × QD)} (h : RowQ w G l) : G < w.heap.size := by
  obtain ⟨cur, hg, _⟩ := h
  exact (Array.getElem?_eq_some_iff.1 hg).1
theorem RowQ.cellsAt {w : World} {G : Nat} {l : List (QV × QD)} (h : RowQ w G l) {i : Nat} {y : QV × QD} (hy : l[i]? = some y) : w.cell? ⟨G, i * 4, none⟩ = some (.bool y.1.num.g) ∧ w.cell? ⟨G, i * 4 + 1, none⟩ = some (.slice y.1.num.a y.1.num.n y.1.num.c) ∧ w.cell? ⟨G, i * 4 + 2, none⟩ = some (.bool y.1.den.g) ∧ w.cell? ⟨G, i * 4 + 3, none⟩ = some (.slice y.1.den.a y.1.den.n y.1.den.c) := by
  obtain ⟨cur, hg, hc⟩ := h
  have h1 := hc i y hy
  refine ⟨?_, ?_, ?_, ?_⟩ <;> rw [cell_of_row w G _ cur 42 (0, 0) hg]
  · exact h1.1
  · exact h1.2.1
  · exact h1.2.2.1
  · exact h1.2.2.2
theorem RowQ.frozen {w : World} {G : Nat} {l : List (QV × QD)} (h : RowQ w G l) (o : Nat) : w.frozen? ⟨G, o, none⟩ = false := by
  obtain ⟨cur, hg, hc⟩ := h
  exact frozen_of_row w G o cur 42 hg
theorem RowQ.but {w w' : World} {G lo hi : Nat} {l : List (QV × QD)} (h : RowQ w G l) (hb : But lo hi w w') (hG : G < lo ∨ hi ≤ G) : RowQ w' G l := by
  obtain ⟨cur, hg, hc⟩ := h
  exact ⟨cur, by rw [hb.block G (Array.getElem?_eq_some_iff.1 hg).1 hG]; exact hg, hc⟩
theorem RowQ.later {w w' : World} {G : Nat} {l : List (QV × QD)} (h : RowQ w G l) (hb : Below w.heap.size w w') : RowQ w' G l := by
  obtain ⟨cur, hg, hc⟩ := h
  exact ⟨cur, by rw [hb.block G (Array.getElem?_eq_some_iff.1 hg).1]; exact hg, hc⟩
theorem RowQ.g0 {w : World} {G i : Nat} {pre post : List (QV × QD)} {y : QV × QD} (g : Bool) (h : RowQ w G (pre ++ y :: post)) (hi : pre.length = i) : RowQ (w.setCell ⟨G, i * 4, none⟩ (.bool g)) G (pre ++ ((⟨⟨g, y.1.num.a, y.1.num.n, y.1.num.c⟩, y.1.den⟩ : QV), (⟨⟨g, y.2.num.xs⟩, y.2.den⟩ : QD)) :: post) := by
  obtain ⟨cur, hg, hc⟩ := h
  subst hi
  refine ⟨cur.setIfInBounds (pre.length * 4) (.bool g), heap_setCell_same w G (pre.length * 4) cur 42 (.bool g) hg, fun j p hp => ?_⟩
  by_cases e : j = pre.length
  · subst e
    rw [mid_eq] at hp
    obtain rfl := Option.some.inj hp
    have h1 := hc pre.length y mid_eq
    have hs : pre.length * 4 < cur.size := (Array.getElem?_eq_some_iff.1 (h1.1)).1
    refine ⟨?_, ?_, ?_, ?_⟩
    · simp [hs]
    · rw [Array.getElem?_setIfInBounds_ne (by omega)]; exact h1.2.1
    · rw [Array.getElem?_setIfInBounds_ne (by omega)]; exact h1.2.2.1
    · rw [Array.getElem?_setIfInBounds_ne (by omega)]; exact h1.2.2.2
  · rw [mid_ne e (y' := y)] at hp
    have h1 := hc j p hp
    refine ⟨?_, ?_, ?_, ?_⟩
    · rw [Array.getElem?_setIfInBounds_ne (by omega)]; exact h1.1
    · rw [Array.getElem?_setIfInBounds_ne (by omega)]; exact h1.2.1
    · rw [Array.getElem?_setIfInBounds_ne (by omega)]; exact h1.2.2.1
    · rw [Array.getElem?_setIfInBounds_ne (by omega)]; exact h1.2.2.2
theorem RowQ.g2 {w : World} {G i : Nat} {pre post : List (QV × QD)} {y : QV × QD} (g : Bool) (h : RowQ w G (pre ++ y :: post)) (hi : pre.length = i) : RowQ (w.setCell ⟨G, i * 4 + 2, none⟩ (.bool g)) G (pre ++ ((⟨y.1.num, ⟨g, y.1.den.a, y.1.den.n, y.1.den.c⟩⟩ : QV), (⟨y.2.num, ⟨g, y.2.den.xs⟩⟩ : QD)) :: post) := by
  obtain ⟨cur, hg, hc⟩ := h
  subst hi
  refine ⟨cur.setIfInBounds (pre.length * 4 + 2) (.bool g), heap_setCell_same w G (pre.length * 4 + 2) cur 42 (.bool g) hg, fun j p hp => ?_⟩
  by_cases e : j = pre.length
  · subst e
    rw [mid_eq] at hp
    obtain rfl := Option.some.inj hp
    have h1 := hc pre.length y mid_eq
    have hs : pre.length * 4 + 2 < cur.size := (Array.getElem?_eq_some_iff.1 (h1.2.2.1)).1
    refine ⟨?_, ?_, ?_, ?_⟩
    · rw [Array.getElem?_setIfInBounds_ne (by omega)]; exact h1.1
    · rw [Array.getElem?_setIfInBounds_ne (by omega)]; exact h1.2.1
    · simp [hs]
    · rw [Array.getElem?_setIfInBounds_ne (by omega)]; exact h1.2.2.2
  · rw [mid_ne e (y' := y)] at hp
    have h1 := hc j p hp
    refine ⟨?_, ?_, ?_, ?_⟩
    · rw [Array.getElem?_setIfInBounds_ne (by omega)]; exact h1.1
    · rw [Array.getElem?_setIfInBounds_ne (by omega)]; exact h1.2.1
    · rw [Array.getElem?_setIfInBounds_ne (by omega)]; exact h1.2.2.1
    · rw [Array.getElem?_setIfInBounds_ne (by omega)]; exact h1.2.2.2
theorem AllOwn.resign {lo hi : Nat} {w w' : World} {pre post : List (BV × BD)} {b : BV} {d : BD} (g : Bool) (h : AllOwn lo hi w (pre ++ (b, d) :: post)) (hb : ∀ k, lo ≤ k → k < w.heap.size → w'.heap[k]? = w.heap[k]?) : AllOwn lo hi w' (pre ++ (⟨g, b.a, b.n, b.c⟩, ⟨g, d.xs⟩) :: post) := by
  have mv : ∀ (a : Option Addr) (zs : List Int), Own2 lo hi w a zs → Own2 lo hi w' a zs := fun a zs ho => by
    rcases ho with e | ⟨b', cur, e, h1, h2, hg, hc⟩
    · exact .inl e
    · exact .inr ⟨b', cur, e, h1, h2, by rw [hb b' h1 (Array.getElem?_eq_some_iff.1 hg).1]; exact hg, hc⟩
  refine ⟨fun p hp => ?_, ?_⟩
  · rcases List.mem_append.1 hp with hp | hp
    · have ho := h.own p (List.mem_append_left _ hp)
      exact ⟨ho.sg, mv _ _ ho.own, ho.len⟩
    · rcases List.mem_cons.1 hp with rfl | hp
      · have ho := h.own (b, d) (List.mem_append_right _ List.mem_cons_self)
        exact ⟨rfl, mv _ _ ho.own, ho.len⟩
      · have ho := h.own p (List.mem_append_right _ (List.mem_cons_of_mem _ hp))
        exact ⟨ho.sg, mv _ _ ho.own, ho.len⟩
  · obtain ⟨p1, p2, p3⟩ := List.pairwise_append.1 h.ap
    obtain ⟨p4, p5⟩ := List.pairwise_cons.1 p2
    refine List.pairwise_append.2 ⟨p1, List.pairwise_cons.2 ⟨fun q hq => p4 q hq, p5⟩, fun p hp q hq => ?_⟩
    rcases List.mem_cons.1 hq with rfl | hq
    · exact p3 p hp (b, d) List.mem_cons_self
    · exact p3 p hp q (List.mem_cons_of_mem _ hq)
theorem RowQ.data {w : World} {G : Nat} {pre post : List (QV × QD)} {v : QV} {d d' : QD} (h : RowQ w G (pre ++ (v, d) :: post)) : RowQ w G (pre ++ (v, d') :: post) := by
  obtain ⟨cur, hg, hc⟩ := h
  refine ⟨cur, hg, fun j p hp => ?_⟩
  by_cases e : j = pre.length
  · subst e
    rw [mid_eq] at hp
    obtain rfl := Option.some.inj hp
    exact hc pre.length (v, d) mid_eq
  · rw [mid_ne e (y' := (v, d))] at hp
    exact hc j p hp
theorem But.wide {lo hi lo' hi' : Nat} {w w' : World} (h : But lo hi w w') (h1 : lo' ≤ lo) (h2 : hi ≤ hi') : But lo' hi' w w' := ⟨h.os, h.tape, h.output, h.size, fun k hk hd => h.block k hk (by omega)⟩
theorem setCell_other {w : World} {G o k : Nat} {v : Value} (h : k ≠ G) : (w.setCell ⟨G, o, none⟩ v).heap[k]? = w.heap[k]? := heap_setCell_other w ⟨G, o, none⟩ k v h
theorem zip_mid (pre post : List (QV × QD)) (y : QV × QD) : zipPQ (pre ++ y :: post) = zipPQ pre ++ (y.1.num, y.2.num) :: ((y.1.den, y.2.den) :: zipPQ post) := by simp [zipPQ]
theorem zip_mid2 (pre post : List (QV × QD)) (y : QV × QD) : zipPQ (pre ++ y :: post) = (zipPQ pre ++ [(y.1.num, y.2.num)]) ++ (y.1.den, y.2.den) :: zipPQ post := by simp [zipPQ]
/-- A marked fraction, from k on. -/
def mkQ (k : Int) (y : QV × QD) : QV × QD := (⟨⟨sg k, y.1.num.a, y.1.num.n, y.1.num.c⟩, ⟨sg (k + 1 + (y.1.num.n : Int)), y.1.den.a, y.1.den.n, y.1.den.c⟩⟩, ⟨⟨sg k, marks (k + 1) y.1.num.n⟩, ⟨sg (k + 1 + (y.1.num.n : Int)), marks (k + 1 + (y.1.num.n : Int) + 1) y.1.den.n⟩⟩)
def nxK (k : Int) (y : QV × QD) : Int := k + 1 + (y.1.num.n : Int) + 1 + (y.1.den.n : Int)
def mkP : Int → List (QV × QD) → List (QV × QD)
  | _, [] => []
  | k, y :: l => mkQ k y :: mkP (nxK k y) l
def enK : Int → List (QV × QD) → Int
  | k, [] => k
  | k, y :: l => enK (nxK k y) l
theorem mkP_snoc (l : List (QV × QD)) (y : QV × QD) : ∀ k, mkP k (l ++ [y]) = mkP k l ++ [mkQ (enK k l) y] := by
  induction l with
  | nil => intro k; rfl
  | cons z l ih => intro k; show mkQ k z :: mkP (nxK k z) (l ++ [y]) = _; rw [ih]; rfl
theorem enK_snoc (l : List (QV × QD)) (y : QV × QD) : ∀ k, enK k (l ++ [y]) = nxK (enK k l) y := by
  induction l with
  | nil => intro k; rfl
  | cons z l ih => intro k; show enK (nxK k z) (l ++ [y]) = _; rw [ih]; rfl
theorem mkP_len (l : List (QV × QD)) : ∀ k, (mkP k l).length = l.length := by
  induction l with
  | nil => intro k; rfl
  | cons z l ih => intro k; show (mkP (nxK k z) l).length + 1 = _; rw [ih]; rfl
theorem enK_eq (l : List (QV × QD)) : ∀ k, enK k l = k + 2 * (l.length : Int) + (lenPQ l : Int) := by
  induction l with
  | nil => intro k; simp [enK, lenPQ]
  | cons z l ih =>
    intro k
    show enK (nxK k z) l = _
    rw [ih]
    have h2 : lenPQ (z :: l) = lenQ z + lenPQ l := rfl
    have h3 : lenQ z = z.1.num.n + z.1.den.n := rfl
    rw [h2, h3]
    unfold nxK
    simp only [List.length_cons]
    omega
theorem mkP_get (l : List (QV × QD)) : ∀ (k : Int) (i : Nat) (h : i < l.length), (mkP k l)[i]? = some (mkQ (enK k (l.take i)) l[i]) := by
  induction l with
  | nil => intro k i h; simp at h
  | cons z l ih =>
    intro k i h
    match i with
    | 0 => rfl
    | i + 1 => exact ih (nxK k z) i (by simpa using h)

theorem mkP_mem {l : List (QV × QD)} {k : Int} {P : QV × QD → Prop} (h : ∀ q y, y ∈ l → P (mkQ q y)) : ∀ p ∈ mkP k l, P p := by
  induction l generalizing k with
  | nil => intro p hp; cases hp
  | cons z l ih =>
    intro p hp
    rcases List.mem_cons.1 hp with rfl | hp
    · exact h k z List.mem_cons_self
    · exact ih (fun q y hy => h q y (List.mem_cons_of_mem _ hy)) p hp
theorem mkP_lenP (l : List (QV × QD)) : ∀ k, lenPQ (mkP k l) = lenPQ l := by
  induction l with
  | nil => intro k; rfl
  | cons z l ih => intro k; show lenQ (mkQ k z) + lenPQ (mkP (nxK k z) l) = lenQ z + lenPQ l; rw [ih]; rfl
/-- A slice of fractions that is the call's own: its row and its numbers in blocks from B to below E. -/
structure PRo (B E : Nat) (w : World) (a : Option Addr) (n c : Nat) (l : List (QV × QD)) : Prop where
  len : l.length = n
  sz : 2 * n + lenPQ l ≤ 3200000
  ml : ∀ p ∈ l, p.1.num.n ≤ 1048576 ∧ p.1.den.n ≤ 1048576
  row : n = 0 ∨ ∃ G lo hi, a = some ⟨G, 0, none⟩ ∧ B ≤ G ∧ G < lo ∧ lo ≤ hi ∧ hi ≤ E ∧ RowQ w G l ∧ AllOwn lo hi w (zipPQ l)
theorem PRo.later {B E : Nat} {w w' : World} {a : Option Addr} {n c : Nat} {l : List (QV × QD)} (h : PRo B E w a n c l) (hb : Below w.heap.size w w') : PRo B E w' a n c l := by
  refine ⟨h.len, h.sz, h.ml, ?_⟩
  rcases h.row with e | ⟨G, lo, hi, e, h1, h2, h3, h4, h5, h6⟩
  · exact .inl e
  · exact .inr ⟨G, lo, hi, e, h1, h2, h3, h4, h5.later hb, h6.later hb⟩
theorem PRo.but {B E lo' hi' : Nat} {w w' : World} {a : Option Addr} {n c : Nat} {l : List (QV × QD)} (h : PRo B E w a n c l) (hb : But lo' hi' w w') (hd : E ≤ lo' ∨ hi' ≤ B) : PRo B E w' a n c l := by
  refine ⟨h.len, h.sz, h.ml, ?_⟩
  rcases h.row with e | ⟨G, lo, hi, e, h1, h2, h3, h4, h5, h6⟩
  · exact .inl e
  · exact .inr ⟨G, lo, hi, e, h1, h2, h3, h4, h5.but hb (by omega), h6.but hb (by omega)⟩
theorem PRo.wide {B E B' E' : Nat} {w : World} {a : Option Addr} {n c : Nat} {l : List (QV × QD)} (h : PRo B E w a n c l) (h1 : B' ≤ B) (h2 : E ≤ E') : PRo B' E' w a n c l := by
  refine ⟨h.len, h.sz, h.ml, ?_⟩
  rcases h.row with e | ⟨G, lo, hi, e, k1, k2, k3, k4, k5, k6⟩
  · exact .inl e
  · exact .inr ⟨G, lo, hi, e, by omega, k2, k3, by omega, k5, k6⟩
theorem PRo.sl {B E : Nat} {w : World} {a : Option Addr} {n c : Nat} {l : List (QV × QD)} (h : PRo B E w a n c l) : PSlQ w a l := by
  rcases h.row with e | ⟨G, lo, hi, e, h1, h2, h3, h4, h5, h6⟩
  · have hl : l = [] := List.length_eq_zero_iff.1 (by rw [h.len]; exact e)
    subst hl
    exact ⟨.inl rfl, fun p hp => by cases hp⟩
  · subst e
    refine ⟨.inr ⟨G, 0, rfl, h5.lt, fun i hi => ?_⟩, fun p hp x hx => h6.sl x (zipPQ_mem hp hx)⟩
    have hc := h5.cellsAt (List.getElem?_eq_getElem hi)
    simpa using hc
theorem PRo.lens {B E : Nat} {w : World} {a : Option Addr} {n c : Nat} {l : List (QV × QD)} (h : PRo B E w a n c l) : ∀ p ∈ l, p.1.num.n ≤ maxLen ∧ p.1.den.n ≤ maxLen := fun p hp => by
  have := h.ml p hp
  unfold maxLen
  omega
theorem PRo.max {B E : Nat} {w : World} {a : Option Addr} {n c : Nat} {l : List (QV × QD)} (h : PRo B E w a n c l) : n ≤ maxLen := by
  have := h.sz
  unfold maxLen
  omega
theorem mkP_ml {l : List (QV × QD)} (k : Int) (h : ∀ p ∈ l, p.1.num.n ≤ 1048576 ∧ p.1.den.n ≤ 1048576) : ∀ p ∈ mkP k l, p.1.num.n ≤ 1048576 ∧ p.1.den.n ≤ 1048576 := mkP_mem (fun q y hy => h y hy)
theorem POwQ.ro {lo hi : Nat} {w : World} {G n c : Nat} {l : List (QV × QD)} (h : POwQ lo hi w G n c l) (hG : G < lo) (hl : lo ≤ hi) (sz : 2 * n + lenPQ l ≤ 3200000) (ml : ∀ p ∈ l, p.1.num.n ≤ 1048576 ∧ p.1.den.n ≤ 1048576) : PRo G hi w (some ⟨G, 0, none⟩) n c l := by
  refine ⟨h.len, sz, ml, .inr ⟨G, lo, hi, rfl, Nat.le_refl _, hG, hl, Nat.le_refl _, ?_, h.own⟩⟩
  obtain ⟨M, hr, hM⟩ := h.row
  rcases hr.2 with ⟨h', _⟩ | ⟨g', cap, cur, hv, _, hg, _, _, _, htake⟩
  · simp at h'
  simp only [Value.slice.injEq, Option.some.injEq, Addr.mk.injEq, and_true, true_and] at hv
  obtain ⟨rfl, rfl⟩ := hv
  refine ⟨cur, hg, fun j p hp => ?_⟩
  have hj : j < l.length := (List.getElem?_eq_some_iff.1 hp).1
  have hc := hM j hj
  have e : l[j] = p := by rw [List.getElem?_eq_getElem hj] at hp; exact Option.some.inj hp
  rw [e] at hc
  have hlen := h.len
  have up : ∀ t v, t < n * 4 → M[t]? = some v → cur[t]? = some v := fun t v ht hv => by
    rw [← htake, List.getElem?_take, if_pos ht] at hv
    simpa using hv
  exact ⟨up _ _ (by omega) hc.1, up _ _ (by omega) hc.2.1, up _ _ (by omega) hc.2.2.1, up _ _ (by omega) hc.2.2.2⟩
/-- The lengths of what is read. -/
def lenD : List QD → Nat
  | [] => 0
  | d :: l => d.num.xs.length + d.den.xs.length + lenD l
theorem lenPQ_data {l : List (QV × QD)} (h : ∀ p ∈ l, p.2.num.xs.length = p.1.num.n ∧ p.2.den.xs.length = p.1.den.n) : lenPQ l = lenD (l.map Prod.snd) := by
  induction l with
  | nil => rfl
  | cons p l ih =>
    have h1 := h p List.mem_cons_self
    have h2 := ih (fun q hq => h q (List.mem_cons_of_mem _ hq))
    show p.1.num.n + p.1.den.n + lenPQ l = p.2.num.xs.length + p.2.den.xs.length + lenD (l.map Prod.snd)
    omega
theorem PSlQ.data {w : World} {a : Option Addr} {l : List (QV × QD)} (h : PSlQ w a l) : ∀ p ∈ l, p.2.num.xs.length = p.1.num.n ∧ p.2.den.xs.length = p.1.den.n := fun p hp => ⟨(h.rd p hp).head.len, (h.rd p hp).tail.head.len⟩
theorem lenPQ_snd {w w' : World} {a a' : Option Addr} {l l' : List (QV × QD)} (h : PSlQ w a l) (h' : PSlQ w' a' l') (e : l.map Prod.snd = l'.map Prod.snd) : lenPQ l = lenPQ l' := by
  rw [lenPQ_data h.data, lenPQ_data h'.data, e]
theorem ml_snd {w w' : World} {a a' : Option Addr} {l l' : List (QV × QD)} (h : PSlQ w a l) (h' : PSlQ w' a' l') (e : l.map Prod.snd = l'.map Prod.snd) (ml : ∀ p ∈ l', p.1.num.n ≤ 1048576 ∧ p.1.den.n ≤ 1048576) : ∀ p ∈ l, p.1.num.n ≤ 1048576 ∧ p.1.den.n ≤ 1048576 := fun p hp => by
  have h1 : p.2 ∈ l'.map Prod.snd := by rw [← e]; exact List.mem_map.2 ⟨p, hp, rfl⟩
  obtain ⟨q, hq, e2⟩ := List.mem_map.1 h1
  have h2 := h.data p hp
  have h3 := h'.data q hq
  have h4 := ml q hq
  rw [e2] at h3
  omega
def RetPr (w : World) (U : List QD → Bool → Prop) (e : Ending) (w' : World) : Prop := ∃ (a : Option Addr) (n c : Nat) (l : List (QV × QD)) (ok : Bool), e = .returned (.tuple #[.slice a n c, .bool ok]) ∧ Below w.heap.size w w' ∧ PSlQ w' a l ∧ l.length = n ∧ U (l.map Prod.snd) ok
def RetPo (w : World) (U : List QD → Bool → Prop) (e : Ending) (w' : World) : Prop := ∃ (a : Option Addr) (n c : Nat) (l : List (QV × QD)) (ok : Bool), e = .returned (.tuple #[.slice a n c, .bool ok]) ∧ Below w.heap.size w w' ∧ PRo w.heap.size w'.heap.size w' a n c l ∧ U (l.map Prod.snd) ok
end Go.Proofs.Ytokajpeopijneaa
namespace Go.Proofs.Ytokajpeopijneaa
open Go.RowKit
set_option linter.unusedVariables false
set_option maxRecDepth 100000
set_option linter.unusedSimpArgs false

set_option maxHeartbeats 1000000 in
theorem markI_consL (b n c : Nat) (k : Int) (cur : Array Value) (w : World) (hg : w.heap[b]? = some (.cells cur 3 (0, 0))) (hn : ∀ i, i < n → ∃ x, cur[i]? = some (.int .i64 x)) (h1 : n ≤ 1048576) (k0 : 0 ≤ k) (k1 : k ≤ 6000000) :
    Calls Try.prog 25 #[.slice (some ⟨b, 0, none⟩) n c, .int .i64 k] w fun e w' => e = .returned (.int .i64 (k + n)) ∧ But b (b + 1) w w' ∧ ∃ cur', w'.heap[b]? = some (.cells cur' 3 (0, 0)) ∧ ∀ i, i < n → cur'[i]? = some (.int .i64 (k + i)) := by
  have HG := hide hg
  have HN := hide hn
  clear hg hn
  go_enter Try.func25, Try.ntmps25
  go_wp2
  go_loopw [1, 5] (fun kv i wr => ∃ (j : Nat) (cur' : Array Value), j ≤ n ∧ i = .int .i64 j ∧ kv = .int .i64 (k + j) ∧ Hid (wr.heap[b]? = some (.cells cur' 3 (0, 0))) ∧ Hid (∀ i, i < j → cur'[i]? = some (.int .i64 (k + i))) ∧ Hid (∀ i, i < n → ∃ x, cur'[i]? = some (.int .i64 x)) ∧ Hid (But b (b + 1) w wr)) (fun _ i _ => n - (intOf i).toNat)
  case atStart => exact ⟨0, cur, Nat.zero_le _, rfl, by simp, HG, hide (fun i hi => absurd hi (Nat.not_lt_zero _)), HN, hide (But.refl _ _ _)⟩
  case round =>
    obtain ⟨j, cur', hj, rfl, rfl, HR, HM, HE, HB⟩ := hrel
    by_cases hlt : j < n
    · obtain ⟨x, hx⟩ := unhide HE j hlt
      have hc : wr.cell? ⟨b, j, none⟩ = some (.int .i64 x) := by rw [cell_of_row wr b j cur' 3 (0, 0) (unhide HR)]; exact hx
      have hf : wr.frozen? ⟨b, j, none⟩ = false := frozen_of_row wr b j cur' 3 (unhide HR)
      have hlt' : (j : Int) < (n : Int) := by omega
      have HR2 := hide (heap_setCell_same wr b j cur' 3 (.int .i64 (k + j)) (unhide HR))
      have HB2 := hide ((unhide HB).set (p := ⟨b, j, none⟩) (Nat.le_refl _) (Nat.lt_succ_self _) (.int .i64 (k + j)))
      have hjs : j < cur'.size := (Array.getElem?_eq_some_iff.1 hx).1
      have HM2 : Hid (∀ i, i < j + 1 → (cur'.setIfInBounds j (.int .i64 (k + j)))[i]? = some (.int .i64 (k + i))) := hide (by
        intro i hi
        by_cases e : i = j
        · subst e; simp [hjs]
        · rw [Array.getElem?_setIfInBounds_ne (by omega)]; exact unhide HM i (by omega))
      have HE2 : Hid (∀ i, i < n → ∃ x, (cur'.setIfInBounds j (.int .i64 (k + j)))[i]? = some (.int .i64 x)) := hide (by
        intro i hi
        by_cases e : i = j
        · subst e; exact ⟨k + i, by simp [hjs]⟩
        · rw [Array.getElem?_setIfInBounds_ne (by omega)]; exact unhide HE i hi)
      clear hx HM HE HR
      go_wp2
      go_roundw
      case rel => exact ⟨j + 1, _, by omega, by go_num, by go_num, HR2, HM2, HE2, HB2⟩
      case measure => simp [intOf]; omega
    · obtain rfl : j = n := by omega
      go_wp2
      go_ret
      exact ⟨rfl, unhide HB, cur', unhide HR, unhide HM⟩
theorem mark_ownL (a : Option Addr) (n c : Nat) (zs : List Int) (k : Int) (lo hi : Nat) (w : World) (ho : Own2 lo hi w a zs) (hn : zs.length = n) (h1 : n ≤ 1048576) (k0 : 0 ≤ k) (k1 : k ≤ 6000000) :
    Calls Try.prog 25 #[.slice a n c, .int .i64 k] w fun e w' => e = .returned (.int .i64 (k + n)) ∧ But lo hi w w' ∧ Own2 lo hi w' a (marks k n) := by
  rcases ho with rfl | ⟨b, cur, rfl, b1, b2, hg, hc⟩
  · simp only [List.length_nil] at hn
    subst hn
    refine (markI_nil a c k w).mono ?_
    rintro e w' ⟨rfl, rfl⟩
    exact ⟨by simp, But.refl _ _ _, .inl rfl⟩
  · refine (markI_consL b n c k cur w hg (fun i hi => ⟨_, hc i (by omega)⟩) h1 k0 k1).mono ?_
    rintro e w' ⟨rfl, hb, cur', hg', hm⟩
    refine ⟨rfl, ⟨hb.os, hb.tape, hb.output, hb.size, fun q hq hd => hb.block q hq (by omega)⟩, .inr ⟨b, cur', rfl, b1, b2, hg', fun i hi => ?_⟩⟩
    rw [marks_len] at hi
    rw [marks_get k n i hi]
    exact hm i hi
set_option maxHeartbeats 1000000 in
theorem heldI_anyL (a : Option Addr) (n c : Nat) (k : Int) (w : World) (hs : Sl w a (marks k n)) (h1 : n ≤ 1048576) (k0 : 0 ≤ k) (k1 : k ≤ 6000000) :
    Calls Try.prog 26 #[.slice a n c, .int .i64 k] w fun e w' => e = .returned (.int .i64 (k + n)) ∧ w' = w := by
  have HS := hide hs
  clear hs
  go_enter Try.func26, Try.ntmps26
  go_wp2
  go_loop [1, 5] (fun kv i => ∃ j : Nat, j ≤ n ∧ i = .int .i64 j ∧ kv = .int .i64 (k + j)) (fun _ i => n - (intOf i).toNat)
  case atStart => exact ⟨0, Nat.zero_le _, rfl, by simp⟩
  case round =>
    obtain ⟨j, hj, rfl, rfl⟩ := hrel
    by_cases hlt : j < n
    · obtain ⟨b, off, rfl, hc⟩ := (unhide HS).at (k := j) (by rw [marks_len]; exact hlt)
      rw [marks_get k n j hlt] at hc
      have hlt' : (j : Int) < (n : Int) := by omega
      go_wp2
      go_round
      case rel => exact ⟨j + 1, by omega, by go_num, by go_num⟩
      case measure => simp [intOf]; omega
    · obtain rfl : j = n := by omega
      go_wp2
      go_ret
      exact ⟨rfl, rfl⟩
set_option maxHeartbeats 1000000 in
theorem mark_atL (b : BV) (d : BD) (pre post : List (BV × BD)) (k : Int) (lo hi : Nat) (w : World) (h : AllOwn lo hi w (pre ++ (b, d) :: post)) (h1 : b.n ≤ 1048576) (k0 : 0 ≤ k) (k1 : k ≤ 6000000) :
    Calls Try.prog 25 #[.slice b.a b.n b.c, .int .i64 k] w fun e w' => e = .returned (.int .i64 (k + b.n)) ∧ But lo hi w w' ∧ AllOwn lo hi w' (pre ++ (b, ⟨d.g, marks k b.n⟩) :: post) := by
  obtain ⟨g, a, n, c⟩ := b
  obtain ⟨g', xs⟩ := d
  have hm : ((⟨g, a, n, c⟩, ⟨g', xs⟩) : BV × BD) ∈ pre ++ (⟨g, a, n, c⟩, ⟨g', xs⟩) :: post := List.mem_append_right _ List.mem_cons_self
  obtain ⟨hs, ho, hl⟩ := h.own _ hm
  obtain ⟨ap1, ap2, ap3⟩ := List.pairwise_append.1 h.ap
  obtain ⟨ap4, ap5⟩ := List.pairwise_cons.1 ap2
  simp only at hs ho hl h1 ⊢
  have hml : (marks k n).length = n := marks_len _ _
  have hnil : xs = [] → marks k n = [] := fun e => List.length_eq_zero_iff.1 (by rw [hml, ← hl, e]; rfl)
  have hAp : ∀ q : BV × BD, Ap (⟨g, a, n, c⟩, ⟨g', xs⟩) q → Ap (⟨g, a, n, c⟩, ⟨g', marks k n⟩) q := fun q hq => by
    rcases hq with hq | hq | hq
    · exact .inl (hnil hq)
    · exact .inr (.inl hq)
    · exact .inr (.inr hq)
  have hpair : (pre ++ ((⟨g, a, n, c⟩, ⟨g', marks k n⟩) : BV × BD) :: post).Pairwise Ap :=
    List.pairwise_append.2 ⟨ap1, List.pairwise_cons.2 ⟨fun q hq => hAp q (ap4 q hq), ap5⟩, fun p hp q hq => by
      rcases List.mem_cons.1 hq with rfl | hq
      · exact (hAp p (ap3 p hp _ List.mem_cons_self).symm).symm
      · exact ap3 p hp q (List.mem_cons_of_mem _ hq)⟩
  by_cases hx0 : xs = []
  · subst hx0
    simp only [List.length_nil] at hl
    subst hl
    refine (markI_nil a c k w).mono ?_
    rintro e w' ⟨rfl, rfl⟩
    refine ⟨by simp, But.refl _ _ _, ⟨fun p hp => ?_, hpair⟩⟩
    rcases List.mem_append.1 hp with hp | hp
    · exact h.own p (List.mem_append_left _ hp)
    · rcases List.mem_cons.1 hp with rfl | hp
      · exact ⟨hs, .inl (hnil rfl), hml⟩
      · exact h.own p (List.mem_append_right _ (List.mem_cons_of_mem _ hp))
  · rcases ho with ho | ⟨b, cur, rfl, b1, b2, hg, hc⟩
    · exact absurd ho hx0
    refine (markI_consL b n c k cur w hg (fun i hi => ⟨_, hc i (by omega)⟩) h1 k0 k1).mono ?_
    rintro e w' ⟨rfl, hb, cur', hg', hmk⟩
    have hother : ∀ p : BV × BD, OwB2 lo hi w p.1 p.2 → Ap (⟨g, some ⟨b, 0, none⟩, n, c⟩, ⟨g', xs⟩) p → OwB2 lo hi w' p.1 p.2 := fun p ho2 hap => by
      refine ⟨ho2.sg, ?_, ho2.len⟩
      by_cases e0 : p.2.xs = []
      · exact .inl e0
      rcases ho2.own with e | ⟨bq, curq, eq, q1, q2, qg, qc⟩
      · exact .inl e
      · refine .inr ⟨bq, curq, eq, q1, q2, ?_, qc⟩
        rcases hap with e | e | ⟨b3, o3, b4, o4, e3, e4, ne⟩
        · exact absurd e hx0
        · exact absurd e e0
        · simp only [Option.some.injEq, Addr.mk.injEq, and_true] at e3
          have e5 : p.1.a = some ⟨b4, o4, none⟩ := e4
          rw [eq] at e5
          simp only [Option.some.injEq, Addr.mk.injEq, and_true] at e5
          rw [hb.block bq (Array.getElem?_eq_some_iff.1 qg).1 (by omega)]
          exact qg
    refine ⟨rfl, ⟨hb.os, hb.tape, hb.output, hb.size, fun q hq hd => hb.block q hq (by omega)⟩, ⟨fun p hp => ?_, hpair⟩⟩
    rcases List.mem_append.1 hp with hp | hp
    · exact hother p (h.own p (List.mem_append_left _ hp)) (ap3 p hp _ List.mem_cons_self).symm
    · rcases List.mem_cons.1 hp with rfl | hp
      · refine ⟨hs, .inr ⟨b, cur', rfl, b1, b2, hg', fun i hi => ?_⟩, hml⟩
        have hi2 : i < n := by rw [← hml]; exact hi
        show cur'[i]? = some (.int .i64 ((marks k n).getD i 0))
        rw [marks_get k n i hi2]
        exact hmk i hi2
      · exact hother p (h.own p (List.mem_append_right _ (List.mem_cons_of_mem _ hp))) (ap4 p hp)
end Go.Proofs.Ytokajpeopijneaa
namespace Go.Proofs.Ytokajpeopijneaa
open Go.RowKit
set_option linter.unusedVariables false
set_option maxRecDepth 100000
set_option linter.unusedSimpArgs false

def RowZ (w : World) (G : Nat) (l : List (SV × SD)) : Prop := ∃ cur, w.heap[G]? = some (.cells cur 44 (0, 0)) ∧ ∀ j p, l[j]? = some p → cur[j * 8]? = some (.bool p.1.lo.num.g) ∧ cur[j * 8 + 1]? = some (.slice p.1.lo.num.a p.1.lo.num.n p.1.lo.num.c) ∧ cur[j * 8 + 2]? = some (.bool p.1.lo.den.g) ∧ cur[j * 8 + 3]? = some (.slice p.1.lo.den.a p.1.lo.den.n p.1.lo.den.c) ∧ cur[j * 8 + 4]? = some (.bool p.1.hi.num.g) ∧ cur[j * 8 + 5]? = some (.slice p.1.hi.num.a p.1.hi.num.n p.1.hi.num.c) ∧ cur[j * 8 + 6]? = some (.bool p.1.hi.den.g) ∧ cur[j * 8 + 7]? = some (.slice p.1.hi.den.a p.1.hi.den.n p.1.hi.den.c)
theorem RowZ.lt {w : World} {G : Nat} {l : List (SV × SD)} (h : RowZ w G l) : G < w.heap.size := by
  obtain ⟨cur, hg, _⟩ := h
  exact (Array.getElem?_eq_some_iff.1 hg).1
theorem RowZ.cellsAt {w : World} {G : Nat} {l : List (SV × SD)} (h : RowZ w G l) {i : Nat} {y : SV × SD} (hy : l[i]? = some y) : w.cell? ⟨G, i * 8, none⟩ = some (.bool y.1.lo.num.g) ∧ w.cell? ⟨G, i * 8 + 1, none⟩ = some (.slice y.1.lo.num.a y.1.lo.num.n y.1.lo.num.c) ∧ w.cell? ⟨G, i * 8 + 2, none⟩ = some (.bool y.1.lo.den.g) ∧ w.cell? ⟨G, i * 8 + 3, none⟩ = some (.slice y.1.lo.den.a y.1.lo.den.n y.1.lo.den.c) ∧ w.cell? ⟨G, i * 8 + 4, none⟩ = some (.bool y.1.hi.num.g) ∧ w.cell? ⟨G, i * 8 + 5, none⟩ = some (.slice y.1.hi.num.a y.1.hi.num.n y.1.hi.num.c) ∧ w.cell? ⟨G, i * 8 + 6, none⟩ = some (.bool y.1.hi.den.g) ∧ w.cell? ⟨G, i * 8 + 7, none⟩ = some (.slice y.1.hi.den.a y.1.hi.den.n y.1.hi.den.c) := by
  obtain ⟨cur, hg, hc⟩ := h
  have h1 := hc i y hy
  refine ⟨?_, ?_, ?_, ?_, ?_, ?_, ?_, ?_⟩ <;> rw [cell_of_row w G _ cur 44 (0, 0) hg]
  · exact h1.1
  · exact h1.2.1
  · exact h1.2.2.1
  · exact h1.2.2.2.1
  · exact h1.2.2.2.2.1
  · exact h1.2.2.2.2.2.1
  · exact h1.2.2.2.2.2.2.1
  · exact h1.2.2.2.2.2.2.2
theorem RowZ.frozen {w : World} {G : Nat} {l : List (SV × SD)} (h : RowZ w G l) (o : Nat) : w.frozen? ⟨G, o, none⟩ = false := by
  obtain ⟨cur, hg, hc⟩ := h
  exact frozen_of_row w G o cur 44 hg
theorem RowZ.but {w w' : World} {G lo hi : Nat} {l : List (SV × SD)} (h : RowZ w G l) (hb : But lo hi w w') (hG : G < lo ∨ hi ≤ G) : RowZ w' G l := by
  obtain ⟨cur, hg, hc⟩ := h
  exact ⟨cur, by rw [hb.block G (Array.getElem?_eq_some_iff.1 hg).1 hG]; exact hg, hc⟩
theorem RowZ.later {w w' : World} {G : Nat} {l : List (SV × SD)} (h : RowZ w G l) (hb : Below w.heap.size w w') : RowZ w' G l := by
  obtain ⟨cur, hg, hc⟩ := h
  exact ⟨cur, by rw [hb.block G (Array.getElem?_eq_some_iff.1 hg).1]; exact hg, hc⟩
theorem RowZ.g0 {w : World} {G i : Nat} {pre post : List (SV × SD)} {y : SV × SD} (g : Bool) (h : RowZ w G (pre ++ y :: post)) (hi : pre.length = i) : RowZ (w.setCell ⟨G, i * 8, none⟩ (.bool g)) G (pre ++ ((⟨⟨⟨g, y.1.lo.num.a, y.1.lo.num.n, y.1.lo.num.c⟩, y.1.lo.den⟩, ⟨y.1.hi.num, y.1.hi.den⟩⟩ : SV), (⟨⟨⟨g, y.2.lo.num.xs⟩, y.2.lo.den⟩, ⟨y.2.hi.num, y.2.hi.den⟩⟩ : SD)) :: post) := by
  obtain ⟨cur, hg, hc⟩ := h
  subst hi
  refine ⟨cur.setIfInBounds (pre.length * 8) (.bool g), heap_setCell_same w G (pre.length * 8) cur 44 (.bool g) hg, fun j p hp => ?_⟩
  by_cases e : j = pre.length
  · subst e
    rw [mid_eq] at hp
    obtain rfl := Option.some.inj hp
    have h1 := hc pre.length y mid_eq
    have hs : pre.length * 8 < cur.size := (Array.getElem?_eq_some_iff.1 (h1.1)).1
    refine ⟨?_, ?_, ?_, ?_, ?_, ?_, ?_, ?_⟩
    · simp [hs]
    · rw [Array.getElem?_setIfInBounds_ne (by omega)]; exact h1.2.1
    · rw [Array.getElem?_setIfInBounds_ne (by omega)]; exact h1.2.2.1
    · rw [Array.getElem?_setIfInBounds_ne (by omega)]; exact h1.2.2.2.1
    · rw [Array.getElem?_setIfInBounds_ne (by omega)]; exact h1.2.2.2.2.1
    · rw [Array.getElem?_setIfInBounds_ne (by omega)]; exact h1.2.2.2.2.2.1
    · rw [Array.getElem?_setIfInBounds_ne (by omega)]; exact h1.2.2.2.2.2.2.1
    · rw [Array.getElem?_setIfInBounds_ne (by omega)]; exact h1.2.2.2.2.2.2.2
  · rw [mid_ne e (y' := y)] at hp
    have h1 := hc j p hp
    refine ⟨?_, ?_, ?_, ?_, ?_, ?_, ?_, ?_⟩
    · rw [Array.getElem?_setIfInBounds_ne (by omega)]; exact h1.1
    · rw [Array.getElem?_setIfInBounds_ne (by omega)]; exact h1.2.1
    · rw [Array.getElem?_setIfInBounds_ne (by omega)]; exact h1.2.2.1
    · rw [Array.getElem?_setIfInBounds_ne (by omega)]; exact h1.2.2.2.1
    · rw [Array.getElem?_setIfInBounds_ne (by omega)]; exact h1.2.2.2.2.1
    · rw [Array.getElem?_setIfInBounds_ne (by omega)]; exact h1.2.2.2.2.2.1
    · rw [Array.getElem?_setIfInBounds_ne (by omega)]; exact h1.2.2.2.2.2.2.1
    · rw [Array.getElem?_setIfInBounds_ne (by omega)]; exact h1.2.2.2.2.2.2.2
theorem RowZ.g1 {w : World} {G i : Nat} {pre post : List (SV × SD)} {y : SV × SD} (g : Bool) (h : RowZ w G (pre ++ y :: post)) (hi : pre.length = i) : RowZ (w.setCell ⟨G, i * 8 + 2, none⟩ (.bool g)) G (pre ++ ((⟨⟨y.1.lo.num, ⟨g, y.1.lo.den.a, y.1.lo.den.n, y.1.lo.den.c⟩⟩, ⟨y.1.hi.num, y.1.hi.den⟩⟩ : SV), (⟨⟨y.2.lo.num, ⟨g, y.2.lo.den.xs⟩⟩, ⟨y.2.hi.num, y.2.hi.den⟩⟩ : SD)) :: post) := by
  obtain ⟨cur, hg, hc⟩ := h
  subst hi
  refine ⟨cur.setIfInBounds (pre.length * 8 + 2) (.bool g), heap_setCell_same w G (pre.length * 8 + 2) cur 44 (.bool g) hg, fun j p hp => ?_⟩
  by_cases e : j = pre.length
  · subst e
    rw [mid_eq] at hp
    obtain rfl := Option.some.inj hp
    have h1 := hc pre.length y mid_eq
    have hs : pre.length * 8 + 2 < cur.size := (Array.getElem?_eq_some_iff.1 (h1.2.2.1)).1
    refine ⟨?_, ?_, ?_, ?_, ?_, ?_, ?_, ?_⟩
    · rw [Array.getElem?_setIfInBounds_ne (by omega)]; exact h1.1
    · rw [Array.getElem?_setIfInBounds_ne (by omega)]; exact h1.2.1
    · simp [hs]
    · rw [Array.getElem?_setIfInBounds_ne (by omega)]; exact h1.2.2.2.1
    · rw [Array.getElem?_setIfInBounds_ne (by omega)]; exact h1.2.2.2.2.1
    · rw [Array.getElem?_setIfInBounds_ne (by omega)]; exact h1.2.2.2.2.2.1
    · rw [Array.getElem?_setIfInBounds_ne (by omega)]; exact h1.2.2.2.2.2.2.1
    · rw [Array.getElem?_setIfInBounds_ne (by omega)]; exact h1.2.2.2.2.2.2.2
  · rw [mid_ne e (y' := y)] at hp
    have h1 := hc j p hp
    refine ⟨?_, ?_, ?_, ?_, ?_, ?_, ?_, ?_⟩
    · rw [Array.getElem?_setIfInBounds_ne (by omega)]; exact h1.1
    · rw [Array.getElem?_setIfInBounds_ne (by omega)]; exact h1.2.1
    · rw [Array.getElem?_setIfInBounds_ne (by omega)]; exact h1.2.2.1
    · rw [Array.getElem?_setIfInBounds_ne (by omega)]; exact h1.2.2.2.1
    · rw [Array.getElem?_setIfInBounds_ne (by omega)]; exact h1.2.2.2.2.1
    · rw [Array.getElem?_setIfInBounds_ne (by omega)]; exact h1.2.2.2.2.2.1
    · rw [Array.getElem?_setIfInBounds_ne (by omega)]; exact h1.2.2.2.2.2.2.1
    · rw [Array.getElem?_setIfInBounds_ne (by omega)]; exact h1.2.2.2.2.2.2.2
theorem RowZ.g2 {w : World} {G i : Nat} {pre post : List (SV × SD)} {y : SV × SD} (g : Bool) (h : RowZ w G (pre ++ y :: post)) (hi : pre.length = i) : RowZ (w.setCell ⟨G, i * 8 + 4, none⟩ (.bool g)) G (pre ++ ((⟨⟨y.1.lo.num, y.1.lo.den⟩, ⟨⟨g, y.1.hi.num.a, y.1.hi.num.n, y.1.hi.num.c⟩, y.1.hi.den⟩⟩ : SV), (⟨⟨y.2.lo.num, y.2.lo.den⟩, ⟨⟨g, y.2.hi.num.xs⟩, y.2.hi.den⟩⟩ : SD)) :: post) := by
  obtain ⟨cur, hg, hc⟩ := h
  subst hi
  refine ⟨cur.setIfInBounds (pre.length * 8 + 4) (.bool g), heap_setCell_same w G (pre.length * 8 + 4) cur 44 (.bool g) hg, fun j p hp => ?_⟩
  by_cases e : j = pre.length
  · subst e
    rw [mid_eq] at hp
    obtain rfl := Option.some.inj hp
    have h1 := hc pre.length y mid_eq
    have hs : pre.length * 8 + 4 < cur.size := (Array.getElem?_eq_some_iff.1 (h1.2.2.2.2.1)).1
    refine ⟨?_, ?_, ?_, ?_, ?_, ?_, ?_, ?_⟩
    · rw [Array.getElem?_setIfInBounds_ne (by omega)]; exact h1.1
    · rw [Array.getElem?_setIfInBounds_ne (by omega)]; exact h1.2.1
    · rw [Array.getElem?_setIfInBounds_ne (by omega)]; exact h1.2.2.1
    · rw [Array.getElem?_setIfInBounds_ne (by omega)]; exact h1.2.2.2.1
    · simp [hs]
    · rw [Array.getElem?_setIfInBounds_ne (by omega)]; exact h1.2.2.2.2.2.1
    · rw [Array.getElem?_setIfInBounds_ne (by omega)]; exact h1.2.2.2.2.2.2.1
    · rw [Array.getElem?_setIfInBounds_ne (by omega)]; exact h1.2.2.2.2.2.2.2
  · rw [mid_ne e (y' := y)] at hp
    have h1 := hc j p hp
    refine ⟨?_, ?_, ?_, ?_, ?_, ?_, ?_, ?_⟩
    · rw [Array.getElem?_setIfInBounds_ne (by omega)]; exact h1.1
    · rw [Array.getElem?_setIfInBounds_ne (by omega)]; exact h1.2.1
    · rw [Array.getElem?_setIfInBounds_ne (by omega)]; exact h1.2.2.1
    · rw [Array.getElem?_setIfInBounds_ne (by omega)]; exact h1.2.2.2.1
    · rw [Array.getElem?_setIfInBounds_ne (by omega)]; exact h1.2.2.2.2.1
    · rw [Array.getElem?_setIfInBounds_ne (by omega)]; exact h1.2.2.2.2.2.1
    · rw [Array.getElem?_setIfInBounds_ne (by omega)]; exact h1.2.2.2.2.2.2.1
    · rw [Array.getElem?_setIfInBounds_ne (by omega)]; exact h1.2.2.2.2.2.2.2
theorem RowZ.g3 {w : World} {G i : Nat} {pre post : List (SV × SD)} {y : SV × SD} (g : Bool) (h : RowZ w G (pre ++ y :: post)) (hi : pre.length = i) : RowZ (w.setCell ⟨G, i * 8 + 6, none⟩ (.bool g)) G (pre ++ ((⟨⟨y.1.lo.num, y.1.lo.den⟩, ⟨y.1.hi.num, ⟨g, y.1.hi.den.a, y.1.hi.den.n, y.1.hi.den.c⟩⟩⟩ : SV), (⟨⟨y.2.lo.num, y.2.lo.den⟩, ⟨y.2.hi.num, ⟨g, y.2.hi.den.xs⟩⟩⟩ : SD)) :: post) := by
  obtain ⟨cur, hg, hc⟩ := h
  subst hi
  refine ⟨cur.setIfInBounds (pre.length * 8 + 6) (.bool g), heap_setCell_same w G (pre.length * 8 + 6) cur 44 (.bool g) hg, fun j p hp => ?_⟩
  by_cases e : j = pre.length
  · subst e
    rw [mid_eq] at hp
    obtain rfl := Option.some.inj hp
    have h1 := hc pre.length y mid_eq
    have hs : pre.length * 8 + 6 < cur.size := (Array.getElem?_eq_some_iff.1 (h1.2.2.2.2.2.2.1)).1
    refine ⟨?_, ?_, ?_, ?_, ?_, ?_, ?_, ?_⟩
    · rw [Array.getElem?_setIfInBounds_ne (by omega)]; exact h1.1
    · rw [Array.getElem?_setIfInBounds_ne (by omega)]; exact h1.2.1
    · rw [Array.getElem?_setIfInBounds_ne (by omega)]; exact h1.2.2.1
    · rw [Array.getElem?_setIfInBounds_ne (by omega)]; exact h1.2.2.2.1
    · rw [Array.getElem?_setIfInBounds_ne (by omega)]; exact h1.2.2.2.2.1
    · rw [Array.getElem?_setIfInBounds_ne (by omega)]; exact h1.2.2.2.2.2.1
    · simp [hs]
    · rw [Array.getElem?_setIfInBounds_ne (by omega)]; exact h1.2.2.2.2.2.2.2
  · rw [mid_ne e (y' := y)] at hp
    have h1 := hc j p hp
    refine ⟨?_, ?_, ?_, ?_, ?_, ?_, ?_, ?_⟩
    · rw [Array.getElem?_setIfInBounds_ne (by omega)]; exact h1.1
    · rw [Array.getElem?_setIfInBounds_ne (by omega)]; exact h1.2.1
    · rw [Array.getElem?_setIfInBounds_ne (by omega)]; exact h1.2.2.1
    · rw [Array.getElem?_setIfInBounds_ne (by omega)]; exact h1.2.2.2.1
    · rw [Array.getElem?_setIfInBounds_ne (by omega)]; exact h1.2.2.2.2.1
    · rw [Array.getElem?_setIfInBounds_ne (by omega)]; exact h1.2.2.2.2.2.1
    · rw [Array.getElem?_setIfInBounds_ne (by omega)]; exact h1.2.2.2.2.2.2.1
    · rw [Array.getElem?_setIfInBounds_ne (by omega)]; exact h1.2.2.2.2.2.2.2
theorem RowZ.data {w : World} {G : Nat} {pre post : List (SV × SD)} {v : SV} {d d' : SD} (h : RowZ w G (pre ++ (v, d) :: post)) : RowZ w G (pre ++ (v, d') :: post) := by
  obtain ⟨cur, hg, hc⟩ := h
  refine ⟨cur, hg, fun j p hp => ?_⟩
  by_cases e : j = pre.length
  · subst e
    rw [mid_eq] at hp
    obtain rfl := Option.some.inj hp
    exact hc pre.length (v, d) mid_eq
  · rw [mid_ne e (y' := (v, d))] at hp
    exact hc j p hp
theorem zipZ_mid0 (pre post : List (SV × SD)) (y : SV × SD) : zipPS (pre ++ y :: post) = zipPS pre ++ (y.1.lo.num, y.2.lo.num) :: (y.1.lo.den, y.2.lo.den) :: (y.1.hi.num, y.2.hi.num) :: (y.1.hi.den, y.2.hi.den) :: zipPS post := by simp [zipPS]
theorem zipZ_mid1 (pre post : List (SV × SD)) (y : SV × SD) : zipPS (pre ++ y :: post) = (zipPS pre ++ [(y.1.lo.num, y.2.lo.num)]) ++ (y.1.lo.den, y.2.lo.den) :: (y.1.hi.num, y.2.hi.num) :: (y.1.hi.den, y.2.hi.den) :: zipPS post := by simp [zipPS]
theorem zipZ_mid2 (pre post : List (SV × SD)) (y : SV × SD) : zipPS (pre ++ y :: post) = (zipPS pre ++ [(y.1.lo.num, y.2.lo.num), (y.1.lo.den, y.2.lo.den)]) ++ (y.1.hi.num, y.2.hi.num) :: (y.1.hi.den, y.2.hi.den) :: zipPS post := by simp [zipPS]
theorem zipZ_mid3 (pre post : List (SV × SD)) (y : SV × SD) : zipPS (pre ++ y :: post) = (zipPS pre ++ [(y.1.lo.num, y.2.lo.num), (y.1.lo.den, y.2.lo.den), (y.1.hi.num, y.2.hi.num)]) ++ (y.1.hi.den, y.2.hi.den) :: zipPS post := by simp [zipPS]
/-- A marked value, from k on. -/
def mkZ (k : Int) (y : SV × SD) : SV × SD := ((⟨⟨⟨sg (k), y.1.lo.num.a, y.1.lo.num.n, y.1.lo.num.c⟩, ⟨sg (k + 1 + (y.1.lo.num.n : Int)), y.1.lo.den.a, y.1.lo.den.n, y.1.lo.den.c⟩⟩, ⟨⟨sg (k + 1 + (y.1.lo.num.n : Int) + 1 + (y.1.lo.den.n : Int)), y.1.hi.num.a, y.1.hi.num.n, y.1.hi.num.c⟩, ⟨sg (k + 1 + (y.1.lo.num.n : Int) + 1 + (y.1.lo.den.n : Int) + 1 + (y.1.hi.num.n : Int)), y.1.hi.den.a, y.1.hi.den.n, y.1.hi.den.c⟩⟩⟩ : SV), (⟨⟨⟨sg (k), marks (k + 1) y.1.lo.num.n⟩, ⟨sg (k + 1 + (y.1.lo.num.n : Int)), marks (k + 1 + (y.1.lo.num.n : Int) + 1) y.1.lo.den.n⟩⟩, ⟨⟨sg (k + 1 + (y.1.lo.num.n : Int) + 1 + (y.1.lo.den.n : Int)), marks (k + 1 + (y.1.lo.num.n : Int) + 1 + (y.1.lo.den.n : Int) + 1) y.1.hi.num.n⟩, ⟨sg (k + 1 + (y.1.lo.num.n : Int) + 1 + (y.1.lo.den.n : Int) + 1 + (y.1.hi.num.n : Int)), marks (k + 1 + (y.1.lo.num.n : Int) + 1 + (y.1.lo.den.n : Int) + 1 + (y.1.hi.num.n : Int) + 1) y.1.hi.den.n⟩⟩⟩ : SD))
def nxZ (k : Int) (y : SV × SD) : Int := k + 1 + (y.1.lo.num.n : Int) + 1 + (y.1.lo.den.n : Int) + 1 + (y.1.hi.num.n : Int) + 1 + (y.1.hi.den.n : Int)
def mkPZ : Int → List (SV × SD) → List (SV × SD)
  | _, [] => []
  | k, y :: l => mkZ k y :: mkPZ (nxZ k y) l
def enZ : Int → List (SV × SD) → Int
  | k, [] => k
  | k, y :: l => enZ (nxZ k y) l
theorem mkPZ_snoc (l : List (SV × SD)) (y : SV × SD) : ∀ k, mkPZ k (l ++ [y]) = mkPZ k l ++ [mkZ (enZ k l) y] := by
  induction l with
  | nil => intro k; rfl
  | cons z l ih => intro k; show mkZ k z :: mkPZ (nxZ k z) (l ++ [y]) = _; rw [ih]; rfl
theorem enZ_snoc (l : List (SV × SD)) (y : SV × SD) : ∀ k, enZ k (l ++ [y]) = nxZ (enZ k l) y := by
  induction l with
  | nil => intro k; rfl
  | cons z l ih => intro k; show enZ (nxZ k z) (l ++ [y]) = _; rw [ih]; rfl
theorem mkPZ_len (l : List (SV × SD)) : ∀ k, (mkPZ k l).length = l.length := by
  induction l with
  | nil => intro k; rfl
  | cons z l ih => intro k; show (mkPZ (nxZ k z) l).length + 1 = _; rw [ih]; rfl
theorem enZ_eq (l : List (SV × SD)) : ∀ k, enZ k l = k + 4 * (l.length : Int) + (lenPS l : Int) := by
  induction l with
  | nil => intro k; simp [enZ, lenPS]
  | cons z l ih =>
    intro k
    show enZ (nxZ k z) l = _
    rw [ih]
    have h2 : lenPS (z :: l) = lenS z + lenPS l := rfl
    have h3 : lenS z = z.1.lo.num.n + z.1.lo.den.n + z.1.hi.num.n + z.1.hi.den.n := rfl
    rw [h2, h3]
    unfold nxZ
    simp only [List.length_cons]
    omega
theorem mkPZ_get (l : List (SV × SD)) : ∀ (k : Int) (i : Nat) (h : i < l.length), (mkPZ k l)[i]? = some (mkZ (enZ k (l.take i)) l[i]) := by
  induction l with
  | nil => intro k i h; simp at h
  | cons z l ih =>
    intro k i h
    match i with
    | 0 => rfl
    | i + 1 => exact ih (nxZ k z) i (by simpa using h)

set_option maxHeartbeats 8000000 in
theorem markPZ (G n c : Nat) (l : List (SV × SD)) (k : Int) (lo hi : Nat) (w : World) (hr : RowZ w G l) (ho : AllOwn lo hi w (zipPS l)) (hn : l.length = n) (ml : ∀ p ∈ l, p.1.lo.num.n ≤ 1048576 ∧ p.1.lo.den.n ≤ 1048576 ∧ p.1.hi.num.n ≤ 1048576 ∧ p.1.hi.den.n ≤ 1048576) (hG : G < lo) (hH : lo ≤ hi) (k0 : 0 ≤ k) (k1 : k + 4 * (n : Int) + (lenPS l : Int) ≤ 4900000) :
    Calls Try.prog 12 #[.slice (some ⟨G, 0, none⟩) n c, .int .i64 k] w fun e w' => e = .returned (.int .i64 (enZ k l)) ∧ But G hi w w' ∧ RowZ w' G (mkPZ k l) ∧ AllOwn lo hi w' (zipPS (mkPZ k l)) := by
  have HR := hide hr
  have HO := hide ho
  have HN := hide hn
  have ML := hide ml
  clear hr ho hn ml
  have hn1 : n ≤ 4900000 := by omega
  go_enter Try.func12, Try.ntmps12
  go_wp2
  go_loopw [1, 5] (fun kv iv wr => ∃ (i : Nat) (a b : List (SV × SD)) (q : Int), i ≤ n ∧ iv = .int .i64 i ∧ kv = .int .i64 q ∧ 0 ≤ q ∧ a.length = i ∧ Hid (l = a ++ b) ∧ Hid (q = enZ k a) ∧ Hid (RowZ wr G (mkPZ k a ++ b)) ∧ Hid (AllOwn lo hi wr (zipPS (mkPZ k a ++ b))) ∧ Hid (But G hi w wr)) (fun _ iv _ => n - (intOf iv).toNat)
  case atStart => exact ⟨0, [], l, k, Nat.zero_le _, rfl, rfl, k0, rfl, hide rfl, hide rfl, HR, HO, hide (But.refl _ _ _)⟩
  case round =>
    clear HR HO
    obtain ⟨i, a, b, q, hi', rfl, rfl, q0, ha, EL, EQ, HR, HO, HB⟩ := hrel
    by_cases hlt : i < n
    · have hlt' : (i : Int) < (n : Int) := by omega
      obtain ⟨y, b', rfl⟩ : ∃ y b', b = y :: b' := by
        cases b with
        | nil => have h1 := unhide HN; rw [unhide EL, List.append_nil] at h1; omega
        | cons y b' => exact ⟨y, b', rfl⟩
      have LB : Hid ((y.1.lo.num.n : Int) + (y.1.lo.den.n : Int) + (y.1.hi.num.n : Int) + (y.1.hi.den.n : Int) + (q + 4) ≤ 4900000) := hide (by
        have h1 := unhide EQ
        rw [enZ_eq, ha] at h1
        have h2 : lenPS l = lenPS a + (lenS y + lenPS b') := by rw [unhide EL, lenPS_append]; rfl
        have h3 : lenS y = y.1.lo.num.n + y.1.lo.den.n + y.1.hi.num.n + y.1.hi.den.n := rfl
        have h4 := unhide HN
        rw [unhide EL] at h4
        simp at h4
        omega)
      have l1 : (y.1.lo.num.n : Int) + (y.1.lo.den.n : Int) + (y.1.hi.num.n : Int) + (y.1.hi.den.n : Int) + (q + 4) ≤ 4900000 := unhide LB
      have m0 : y.1.lo.num.n ≤ 1048576 := ((unhide ML) y (by rw [unhide EL]; simp)).1
      have m1 : y.1.lo.den.n ≤ 1048576 := ((unhide ML) y (by rw [unhide EL]; simp)).2.1
      have m2 : y.1.hi.num.n ≤ 1048576 := ((unhide ML) y (by rw [unhide EL]; simp)).2.2.1
      have m3 : y.1.hi.den.n ≤ 1048576 := ((unhide ML) y (by rw [unhide EL]; simp)).2.2.2
      have pl : (mkPZ k a).length = i := by rw [mkPZ_len]; exact ha
      obtain ⟨c0, c1, c2, c3, c4, c5, c6, c7⟩ := (unhide HR).cellsAt (i := i) (y := y) (by rw [← pl]; exact mid_eq)
      have fz := (unhide HR).frozen
      have gG : G < wr.heap.size := (unhide HR).lt
      have HR1 := hide ((unhide HR).g0 (sg (q)) pl)
      have HO1 := hide (AllOwn.resign (sg (q)) (by have h := unhide HO; rw [zipZ_mid0] at h; exact h) (w' := wr.setCell ⟨G, i * 8, none⟩ (.bool (sg (q)))) (fun k h1 _ => setCell_other (by omega)))
      have HB1 := hide ((unhide HB).set (p := ⟨G, i * 8, none⟩) (Nat.le_refl _) (by show G < hi; omega) (.bool (sg (q))))
      go_wp2_with fail
      refine (mark_atL ⟨sg (q), y.1.lo.num.a, y.1.lo.num.n, y.1.lo.num.c⟩ ⟨sg (q), y.2.lo.num.xs⟩ _ _ (q + 1) lo hi _ (unhide HO1) m0 (by omega) (by omega)).mono ?_
      rintro e w2 ⟨rfl, hbt, ho2⟩
      have HR2 : Hid (RowZ w2 G (mkPZ k a ++ ((⟨⟨⟨sg (q), y.1.lo.num.a, y.1.lo.num.n, y.1.lo.num.c⟩, y.1.lo.den⟩, ⟨y.1.hi.num, y.1.hi.den⟩⟩ : SV), (⟨⟨⟨sg (q), marks (q + 1) y.1.lo.num.n⟩, y.2.lo.den⟩, ⟨y.2.hi.num, y.2.hi.den⟩⟩ : SD)) :: b')) := hide ((unhide HR1).but hbt (.inl hG)).data
      have HO2 : Hid (AllOwn lo hi w2 (zipPS (mkPZ k a ++ ((⟨⟨⟨sg (q), y.1.lo.num.a, y.1.lo.num.n, y.1.lo.num.c⟩, y.1.lo.den⟩, ⟨y.1.hi.num, y.1.hi.den⟩⟩ : SV), (⟨⟨⟨sg (q), marks (q + 1) y.1.lo.num.n⟩, y.2.lo.den⟩, ⟨y.2.hi.num, y.2.hi.den⟩⟩ : SD)) :: b'))) := hide (by rw [zipZ_mid0]; exact ho2)
      have HB2 := hide ((unhide HB1).trans (hbt.wide (by omega) (Nat.le_refl _)))
      clear hbt ho2 c0 c1 c2 c3 c4 c5 c6 c7 fz HR HO HB HR1 HO1 HB1
      obtain ⟨c0, c1, c2, c3, c4, c5, c6, c7⟩ := (unhide HR2).cellsAt (i := i) (by rw [← pl]; exact mid_eq)
      simp only at c0 c1 c2 c3 c4 c5 c6 c7
      have fz := (unhide HR2).frozen
      have HR3 := hide ((unhide HR2).g1 (sg (q + 1 + (y.1.lo.num.n : Int))) pl)
      have HO3 := hide (AllOwn.resign (sg (q + 1 + (y.1.lo.num.n : Int))) (by have h := unhide HO2; rw [zipZ_mid1] at h; exact h) (w' := w2.setCell ⟨G, i * 8 + 2, none⟩ (.bool (sg (q + 1 + (y.1.lo.num.n : Int))))) (fun k h1 _ => setCell_other (by omega)))
      have HB3 := hide ((unhide HB2).set (p := ⟨G, i * 8 + 2, none⟩) (Nat.le_refl _) (by show G < hi; omega) (.bool (sg (q + 1 + (y.1.lo.num.n : Int)))))
      go_wp2_with fail
      refine (mark_atL ⟨sg (q + 1 + (y.1.lo.num.n : Int)), y.1.lo.den.a, y.1.lo.den.n, y.1.lo.den.c⟩ ⟨sg (q + 1 + (y.1.lo.num.n : Int)), y.2.lo.den.xs⟩ _ _ (q + 1 + (y.1.lo.num.n : Int) + 1) lo hi _ (unhide HO3) m1 (by omega) (by omega)).mono ?_
      rintro e w4 ⟨rfl, hbt, ho2⟩
      have HR4 : Hid (RowZ w4 G (mkPZ k a ++ ((⟨⟨⟨sg (q), y.1.lo.num.a, y.1.lo.num.n, y.1.lo.num.c⟩, ⟨sg (q + 1 + (y.1.lo.num.n : Int)), y.1.lo.den.a, y.1.lo.den.n, y.1.lo.den.c⟩⟩, ⟨y.1.hi.num, y.1.hi.den⟩⟩ : SV), (⟨⟨⟨sg (q), marks (q + 1) y.1.lo.num.n⟩, ⟨sg (q + 1 + (y.1.lo.num.n : Int)), marks (q + 1 + (y.1.lo.num.n : Int) + 1) y.1.lo.den.n⟩⟩, ⟨y.2.hi.num, y.2.hi.den⟩⟩ : SD)) :: b')) := hide ((unhide HR3).but hbt (.inl hG)).data
      have HO4 : Hid (AllOwn lo hi w4 (zipPS (mkPZ k a ++ ((⟨⟨⟨sg (q), y.1.lo.num.a, y.1.lo.num.n, y.1.lo.num.c⟩, ⟨sg (q + 1 + (y.1.lo.num.n : Int)), y.1.lo.den.a, y.1.lo.den.n, y.1.lo.den.c⟩⟩, ⟨y.1.hi.num, y.1.hi.den⟩⟩ : SV), (⟨⟨⟨sg (q), marks (q + 1) y.1.lo.num.n⟩, ⟨sg (q + 1 + (y.1.lo.num.n : Int)), marks (q + 1 + (y.1.lo.num.n : Int) + 1) y.1.lo.den.n⟩⟩, ⟨y.2.hi.num, y.2.hi.den⟩⟩ : SD)) :: b'))) := hide (by rw [zipZ_mid1]; exact ho2)
      have HB4 := hide ((unhide HB3).trans (hbt.wide (by omega) (Nat.le_refl _)))
      clear hbt ho2 c0 c1 c2 c3 c4 c5 c6 c7 fz HR2 HO2 HB2 HR3 HO3 HB3
      obtain ⟨c0, c1, c2, c3, c4, c5, c6, c7⟩ := (unhide HR4).cellsAt (i := i) (by rw [← pl]; exact mid_eq)
      simp only at c0 c1 c2 c3 c4 c5 c6 c7
      have fz := (unhide HR4).frozen
      have HR5 := hide ((unhide HR4).g2 (sg (q + 1 + (y.1.lo.num.n : Int) + 1 + (y.1.lo.den.n : Int))) pl)
      have HO5 := hide (AllOwn.resign (sg (q + 1 + (y.1.lo.num.n : Int) + 1 + (y.1.lo.den.n : Int))) (by have h := unhide HO4; rw [zipZ_mid2] at h; exact h) (w' := w4.setCell ⟨G, i * 8 + 4, none⟩ (.bool (sg (q + 1 + (y.1.lo.num.n : Int) + 1 + (y.1.lo.den.n : Int))))) (fun k h1 _ => setCell_other (by omega)))
      have HB5 := hide ((unhide HB4).set (p := ⟨G, i * 8 + 4, none⟩) (Nat.le_refl _) (by show G < hi; omega) (.bool (sg (q + 1 + (y.1.lo.num.n : Int) + 1 + (y.1.lo.den.n : Int)))))
      go_wp2_with fail
      refine (mark_atL ⟨sg (q + 1 + (y.1.lo.num.n : Int) + 1 + (y.1.lo.den.n : Int)), y.1.hi.num.a, y.1.hi.num.n, y.1.hi.num.c⟩ ⟨sg (q + 1 + (y.1.lo.num.n : Int) + 1 + (y.1.lo.den.n : Int)), y.2.hi.num.xs⟩ _ _ (q + 1 + (y.1.lo.num.n : Int) + 1 + (y.1.lo.den.n : Int) + 1) lo hi _ (unhide HO5) m2 (by omega) (by omega)).mono ?_
      rintro e w6 ⟨rfl, hbt, ho2⟩
      have HR6 : Hid (RowZ w6 G (mkPZ k a ++ ((⟨⟨⟨sg (q), y.1.lo.num.a, y.1.lo.num.n, y.1.lo.num.c⟩, ⟨sg (q + 1 + (y.1.lo.num.n : Int)), y.1.lo.den.a, y.1.lo.den.n, y.1.lo.den.c⟩⟩, ⟨⟨sg (q + 1 + (y.1.lo.num.n : Int) + 1 + (y.1.lo.den.n : Int)), y.1.hi.num.a, y.1.hi.num.n, y.1.hi.num.c⟩, y.1.hi.den⟩⟩ : SV), (⟨⟨⟨sg (q), marks (q + 1) y.1.lo.num.n⟩, ⟨sg (q + 1 + (y.1.lo.num.n : Int)), marks (q + 1 + (y.1.lo.num.n : Int) + 1) y.1.lo.den.n⟩⟩, ⟨⟨sg (q + 1 + (y.1.lo.num.n : Int) + 1 + (y.1.lo.den.n : Int)), marks (q + 1 + (y.1.lo.num.n : Int) + 1 + (y.1.lo.den.n : Int) + 1) y.1.hi.num.n⟩, y.2.hi.den⟩⟩ : SD)) :: b')) := hide ((unhide HR5).but hbt (.inl hG)).data
      have HO6 : Hid (AllOwn lo hi w6 (zipPS (mkPZ k a ++ ((⟨⟨⟨sg (q), y.1.lo.num.a, y.1.lo.num.n, y.1.lo.num.c⟩, ⟨sg (q + 1 + (y.1.lo.num.n : Int)), y.1.lo.den.a, y.1.lo.den.n, y.1.lo.den.c⟩⟩, ⟨⟨sg (q + 1 + (y.1.lo.num.n : Int) + 1 + (y.1.lo.den.n : Int)), y.1.hi.num.a, y.1.hi.num.n, y.1.hi.num.c⟩, y.1.hi.den⟩⟩ : SV), (⟨⟨⟨sg (q), marks (q + 1) y.1.lo.num.n⟩, ⟨sg (q + 1 + (y.1.lo.num.n : Int)), marks (q + 1 + (y.1.lo.num.n : Int) + 1) y.1.lo.den.n⟩⟩, ⟨⟨sg (q + 1 + (y.1.lo.num.n : Int) + 1 + (y.1.lo.den.n : Int)), marks (q + 1 + (y.1.lo.num.n : Int) + 1 + (y.1.lo.den.n : Int) + 1) y.1.hi.num.n⟩, y.2.hi.den⟩⟩ : SD)) :: b'))) := hide (by rw [zipZ_mid2]; exact ho2)
      have HB6 := hide ((unhide HB5).trans (hbt.wide (by omega) (Nat.le_refl _)))
      clear hbt ho2 c0 c1 c2 c3 c4 c5 c6 c7 fz HR4 HO4 HB4 HR5 HO5 HB5
      obtain ⟨c0, c1, c2, c3, c4, c5, c6, c7⟩ := (unhide HR6).cellsAt (i := i) (by rw [← pl]; exact mid_eq)
      simp only at c0 c1 c2 c3 c4 c5 c6 c7
      have fz := (unhide HR6).frozen
      have HR7 := hide ((unhide HR6).g3 (sg (q + 1 + (y.1.lo.num.n : Int) + 1 + (y.1.lo.den.n : Int) + 1 + (y.1.hi.num.n : Int))) pl)
      have HO7 := hide (AllOwn.resign (sg (q + 1 + (y.1.lo.num.n : Int) + 1 + (y.1.lo.den.n : Int) + 1 + (y.1.hi.num.n : Int))) (by have h := unhide HO6; rw [zipZ_mid3] at h; exact h) (w' := w6.setCell ⟨G, i * 8 + 6, none⟩ (.bool (sg (q + 1 + (y.1.lo.num.n : Int) + 1 + (y.1.lo.den.n : Int) + 1 + (y.1.hi.num.n : Int))))) (fun k h1 _ => setCell_other (by omega)))
      have HB7 := hide ((unhide HB6).set (p := ⟨G, i * 8 + 6, none⟩) (Nat.le_refl _) (by show G < hi; omega) (.bool (sg (q + 1 + (y.1.lo.num.n : Int) + 1 + (y.1.lo.den.n : Int) + 1 + (y.1.hi.num.n : Int)))))
      go_wp2_with fail
      refine (mark_atL ⟨sg (q + 1 + (y.1.lo.num.n : Int) + 1 + (y.1.lo.den.n : Int) + 1 + (y.1.hi.num.n : Int)), y.1.hi.den.a, y.1.hi.den.n, y.1.hi.den.c⟩ ⟨sg (q + 1 + (y.1.lo.num.n : Int) + 1 + (y.1.lo.den.n : Int) + 1 + (y.1.hi.num.n : Int)), y.2.hi.den.xs⟩ _ _ (q + 1 + (y.1.lo.num.n : Int) + 1 + (y.1.lo.den.n : Int) + 1 + (y.1.hi.num.n : Int) + 1) lo hi _ (unhide HO7) m3 (by omega) (by omega)).mono ?_
      rintro e w8 ⟨rfl, hbt, ho2⟩
      have EK : Hid (mkPZ k (a ++ [y]) ++ b' = mkPZ k a ++ mkZ q y :: b') := hide (by rw [mkPZ_snoc, ← unhide EQ, List.append_assoc]; rfl)
      have HR8 : Hid (RowZ w8 G (mkPZ k (a ++ [y]) ++ b')) := hide (by rw [unhide EK]; exact ((unhide HR7).but hbt (.inl hG)).data)
      have HO8 : Hid (AllOwn lo hi w8 (zipPS (mkPZ k (a ++ [y]) ++ b'))) := hide (by rw [unhide EK, zipZ_mid3]; exact ho2)
      have EQ4 : Hid (nxZ q y = enZ k (a ++ [y])) := hide (by rw [enZ_snoc, ← unhide EQ])
      have HB8 := hide ((unhide HB7).trans (hbt.wide (by omega) (Nat.le_refl _)))
      clear hbt ho2 c0 c1 c2 c3 c4 c5 c6 c7 fz HR6 HO6 HB6 HR7 HO7 HB7
      go_wp2
      go_roundw
      case rel => exact ⟨i + 1, a ++ [y], b', nxZ q y, by omega, by go_num, rfl, by unfold nxZ; omega, by simp [ha], hide (by rw [unhide EL, List.append_assoc]; rfl), EQ4, HR8, HO8, HB8⟩
      case measure => simp [intOf]; omega
    · obtain rfl : i = n := by omega
      have hb0 : b = [] := by
        have h1 := unhide HN
        rw [unhide EL, List.length_append] at h1
        exact List.length_eq_zero_iff.1 (by omega)
      subst hb0
      have EA : Hid (l = a) := hide (by rw [unhide EL, List.append_nil])
      go_wp2
      go_ret
      refine ⟨by rw [unhide EA, ← unhide EQ]; rfl, unhide HB, ?_, ?_⟩
      · have h := unhide HR
        rw [List.append_nil, ← unhide EA] at h
        exact h
      · have h := unhide HO
        rw [List.append_nil, ← unhide EA] at h
        exact h
theorem mkPZ_mem {l : List (SV × SD)} {k : Int} {P : SV × SD → Prop} (h : ∀ q y, y ∈ l → P (mkZ q y)) : ∀ p ∈ mkPZ k l, P p := by
  induction l generalizing k with
  | nil => intro p hp; cases hp
  | cons z l ih =>
    intro p hp
    rcases List.mem_cons.1 hp with rfl | hp
    · exact h k z List.mem_cons_self
    · exact ih (fun q y hy => h q y (List.mem_cons_of_mem _ hy)) p hp
theorem mkPZ_lenP (l : List (SV × SD)) : ∀ k, lenPS (mkPZ k l) = lenPS l := by
  induction l with
  | nil => intro k; rfl
  | cons z l ih => intro k; show lenS (mkZ k z) + lenPS (mkPZ (nxZ k z) l) = lenS z + lenPS l; rw [ih]; rfl
set_option maxHeartbeats 8000000 in
theorem heldPZ (G n c : Nat) (l : List (SV × SD)) (k : Int) (w : World) (hr : RowZ w G (mkPZ k l)) (hs : AllSl w (zipPS (mkPZ k l))) (hn : l.length = n) (ml : ∀ p ∈ l, p.1.lo.num.n ≤ 1048576 ∧ p.1.lo.den.n ≤ 1048576 ∧ p.1.hi.num.n ≤ 1048576 ∧ p.1.hi.den.n ≤ 1048576) (k0 : 0 ≤ k) (k1 : k + 4 * (n : Int) + (lenPS l : Int) ≤ 4900000) :
    Calls Try.prog 13 #[.slice (some ⟨G, 0, none⟩) n c, .int .i64 k] w fun e w' => e = .returned (.int .i64 (enZ k l)) ∧ w' = w := by
  have HR := hide hr
  have HS := hide hs
  have HN := hide hn
  have ML := hide ml
  clear hr hs hn ml
  have hn1 : n ≤ 4900000 := by omega
  go_enter Try.func13, Try.ntmps13
  go_wp2
  go_loopw [1, 5] (fun kv iv wr => ∃ (i : Nat) (q : Int), i ≤ n ∧ iv = .int .i64 i ∧ kv = .int .i64 q ∧ 0 ≤ q ∧ Hid (q = enZ k (l.take i)) ∧ wr = w) (fun _ iv _ => n - (intOf iv).toNat)
  case atStart => exact ⟨0, k, Nat.zero_le _, rfl, rfl, k0, hide (by simp [enZ]), rfl⟩
  case round =>
    obtain ⟨i, q, hi', rfl, rfl, q0, EQ, rfl⟩ := hrel
    by_cases hlt : i < n
    · have hlt' : (i : Int) < (n : Int) := by omega
      have hil : i < l.length := by rw [unhide HN]; exact hlt
      have hget := mkPZ_get l k i hil
      rw [← unhide EQ] at hget
      have TK : Hid (l.take (i + 1) = l.take i ++ [l[i]]) := hide (take_succS hil)
      have MY : Hid (l[i] ∈ l) := hide (List.getElem_mem _)
      have EQ2 : Hid (nxZ q l[i] = enZ k (l.take (i + 1))) := hide (by rw [unhide TK, enZ_snoc, ← unhide EQ])
      have LE : Hid (nxZ q l[i] ≤ 4900000) := hide (by
        rw [unhide EQ2, enZ_eq]
        have h1 : (l.take (i + 1)).length = i + 1 := by rw [List.length_take]; omega
        have h2 : lenPS l = lenPS (l.take (i + 1)) + lenPS (l.drop (i + 1)) := by rw [← lenPS_append, List.take_append_drop]
        rw [h1]
        omega)
      have hm := List.mem_of_getElem? hget
      have S0 := (unhide HS) ((mkZ q l[i]).1.lo.num, (mkZ q l[i]).2.lo.num) (zipPS_mem hm (by simp))
      have S1 := (unhide HS) ((mkZ q l[i]).1.lo.den, (mkZ q l[i]).2.lo.den) (zipPS_mem hm (by simp))
      have S2 := (unhide HS) ((mkZ q l[i]).1.hi.num, (mkZ q l[i]).2.hi.num) (zipPS_mem hm (by simp))
      have S3 := (unhide HS) ((mkZ q l[i]).1.hi.den, (mkZ q l[i]).2.hi.den) (zipPS_mem hm (by simp))
      have m0 := (unhide ML) l[i] (unhide MY)
      obtain ⟨b0, b1, b2, b3, b4, b5, b6, b7⟩ := (unhide HR).cellsAt hget
      obtain ⟨y, hy⟩ : ∃ y, y = l[i] := ⟨_, rfl⟩
      rw [← hy] at b0 b1 b2 b3 b4 b5 b6 b7 S0 S1 S2 S3 m0 EQ2 LE
      clear hy hget hm TK MY hil
      have c0 : wr.cell? ⟨G, i * 8, none⟩ = some (.bool ((q) % 3 == 0)) := b0
      have c1 : wr.cell? ⟨G, i * 8 + 1, none⟩ = some (.slice y.1.lo.num.a y.1.lo.num.n y.1.lo.num.c) := b1
      have X0 := hide (show Sl wr y.1.lo.num.a (marks (q + 1) y.1.lo.num.n) from S0.sl)
      have c2 : wr.cell? ⟨G, i * 8 + 2, none⟩ = some (.bool ((q + 1 + (y.1.lo.num.n : Int)) % 3 == 0)) := b2
      have c3 : wr.cell? ⟨G, i * 8 + 3, none⟩ = some (.slice y.1.lo.den.a y.1.lo.den.n y.1.lo.den.c) := b3
      have X1 := hide (show Sl wr y.1.lo.den.a (marks (q + 1 + (y.1.lo.num.n : Int) + 1) y.1.lo.den.n) from S1.sl)
      have c4 : wr.cell? ⟨G, i * 8 + 4, none⟩ = some (.bool ((q + 1 + (y.1.lo.num.n : Int) + 1 + (y.1.lo.den.n : Int)) % 3 == 0)) := b4
      have c5 : wr.cell? ⟨G, i * 8 + 5, none⟩ = some (.slice y.1.hi.num.a y.1.hi.num.n y.1.hi.num.c) := b5
      have X2 := hide (show Sl wr y.1.hi.num.a (marks (q + 1 + (y.1.lo.num.n : Int) + 1 + (y.1.lo.den.n : Int) + 1) y.1.hi.num.n) from S2.sl)
      have c6 : wr.cell? ⟨G, i * 8 + 6, none⟩ = some (.bool ((q + 1 + (y.1.lo.num.n : Int) + 1 + (y.1.lo.den.n : Int) + 1 + (y.1.hi.num.n : Int)) % 3 == 0)) := b6
      have c7 : wr.cell? ⟨G, i * 8 + 7, none⟩ = some (.slice y.1.hi.den.a y.1.hi.den.n y.1.hi.den.c) := b7
      have X3 := hide (show Sl wr y.1.hi.den.a (marks (q + 1 + (y.1.lo.num.n : Int) + 1 + (y.1.lo.den.n : Int) + 1 + (y.1.hi.num.n : Int) + 1) y.1.hi.den.n) from S3.sl)
      have le : q + 1 + (y.1.lo.num.n : Int) + 1 + (y.1.lo.den.n : Int) + 1 + (y.1.hi.num.n : Int) + 1 + (y.1.hi.den.n : Int) ≤ 4900000 := unhide LE
      clear b0 b1 b2 b3 b4 b5 b6 b7 S0 S1 S2 S3 LE
      go_wp2_with fail
      refine (heldI_anyL _ _ _ (q + 1) _ (unhide X0) m0.1 (by omega) (by omega)).mono ?_
      rintro e w0 ⟨rfl, rfl⟩
      have d0 : ¬ (q + 1 + (y.1.lo.num.n : Int) < 0) := by omega
      go_wp2_with fail
      refine (heldI_anyL _ _ _ (q + 1 + (y.1.lo.num.n : Int) + 1) _ (unhide X1) m0.2.1 (by omega) (by omega)).mono ?_
      rintro e w1 ⟨rfl, rfl⟩
      have d1 : ¬ (q + 1 + (y.1.lo.num.n : Int) + 1 + (y.1.lo.den.n : Int) < 0) := by omega
      go_wp2_with fail
      refine (heldI_anyL _ _ _ (q + 1 + (y.1.lo.num.n : Int) + 1 + (y.1.lo.den.n : Int) + 1) _ (unhide X2) m0.2.2.1 (by omega) (by omega)).mono ?_
      rintro e w2 ⟨rfl, rfl⟩
      have d2 : ¬ (q + 1 + (y.1.lo.num.n : Int) + 1 + (y.1.lo.den.n : Int) + 1 + (y.1.hi.num.n : Int) < 0) := by omega
      go_wp2_with fail
      refine (heldI_anyL _ _ _ (q + 1 + (y.1.lo.num.n : Int) + 1 + (y.1.lo.den.n : Int) + 1 + (y.1.hi.num.n : Int) + 1) _ (unhide X3) m0.2.2.2 (by omega) (by omega)).mono ?_
      rintro e w3 ⟨rfl, rfl⟩
      have d3 : ¬ (q + 1 + (y.1.lo.num.n : Int) + 1 + (y.1.lo.den.n : Int) + 1 + (y.1.hi.num.n : Int) + 1 + (y.1.hi.den.n : Int) < 0) := by omega
      go_wp2
      go_roundw
      case rel => exact ⟨i + 1, nxZ q y, by omega, by go_num, rfl, by unfold nxZ; omega, EQ2, trivial⟩
      case measure => simp [intOf]; omega
    · obtain rfl : i = n := by omega
      have EL : Hid (q = enZ k l) := hide (by have h := unhide EQ; rw [← unhide HN, List.take_length] at h; exact h)
      go_wp2
      go_ret
      exact ⟨by rw [← unhide EL]; rfl, rfl⟩
theorem markPZ0 (a : Option Addr) (c : Nat) (k : Int) (w : World) : Calls Try.prog 12 #[.slice a 0 c, .int .i64 k] w fun e w' => e = .returned (.int .i64 k) ∧ w' = w := by
  go_enter Try.func12, Try.ntmps12
  go_wp2
  refine wp_loop_rounds 1 ?_
  rw [rounds_succ]
  go_wp2
  go_ret
  exact ⟨rfl, rfl⟩
theorem heldPZ0 (a : Option Addr) (c : Nat) (k : Int) (w : World) : Calls Try.prog 13 #[.slice a 0 c, .int .i64 k] w fun e w' => e = .returned (.int .i64 k) ∧ w' = w := by
  go_enter Try.func13, Try.ntmps13
  go_wp2
  refine wp_loop_rounds 1 ?_
  rw [rounds_succ]
  go_wp2
  go_ret
  exact ⟨rfl, rfl⟩

/-- A slice of fractions that is the call's own: its row and its numbers in blocks from B to below E. -/
structure PRoZ (B E : Nat) (w : World) (a : Option Addr) (n c : Nat) (l : List (SV × SD)) : Prop where
  len : l.length = n
  sz : 4 * n + lenPS l ≤ 4200000
  ml : ∀ p ∈ l, p.1.lo.num.n ≤ 1048576 ∧ p.1.lo.den.n ≤ 1048576 ∧ p.1.hi.num.n ≤ 1048576 ∧ p.1.hi.den.n ≤ 1048576
  row : n = 0 ∨ ∃ G lo hi, a = some ⟨G, 0, none⟩ ∧ B ≤ G ∧ G < lo ∧ lo ≤ hi ∧ hi ≤ E ∧ RowZ w G l ∧ AllOwn lo hi w (zipPS l)
theorem PRoZ.later {B E : Nat} {w w' : World} {a : Option Addr} {n c : Nat} {l : List (SV × SD)} (h : PRoZ B E w a n c l) (hb : Below w.heap.size w w') : PRoZ B E w' a n c l := by
  refine ⟨h.len, h.sz, h.ml, ?_⟩
  rcases h.row with e | ⟨G, lo, hi, e, h1, h2, h3, h4, h5, h6⟩
  · exact .inl e
  · exact .inr ⟨G, lo, hi, e, h1, h2, h3, h4, h5.later hb, h6.later hb⟩
theorem PRoZ.but {B E lo' hi' : Nat} {w w' : World} {a : Option Addr} {n c : Nat} {l : List (SV × SD)} (h : PRoZ B E w a n c l) (hb : But lo' hi' w w') (hd : E ≤ lo' ∨ hi' ≤ B) : PRoZ B E w' a n c l := by
  refine ⟨h.len, h.sz, h.ml, ?_⟩
  rcases h.row with e | ⟨G, lo, hi, e, h1, h2, h3, h4, h5, h6⟩
  · exact .inl e
  · exact .inr ⟨G, lo, hi, e, h1, h2, h3, h4, h5.but hb (by omega), h6.but hb (by omega)⟩
theorem PRoZ.wide {B E B' E' : Nat} {w : World} {a : Option Addr} {n c : Nat} {l : List (SV × SD)} (h : PRoZ B E w a n c l) (h1 : B' ≤ B) (h2 : E ≤ E') : PRoZ B' E' w a n c l := by
  refine ⟨h.len, h.sz, h.ml, ?_⟩
  rcases h.row with e | ⟨G, lo, hi, e, k1, k2, k3, k4, k5, k6⟩
  · exact .inl e
  · exact .inr ⟨G, lo, hi, e, by omega, k2, k3, by omega, k5, k6⟩
theorem PRoZ.sl {B E : Nat} {w : World} {a : Option Addr} {n c : Nat} {l : List (SV × SD)} (h : PRoZ B E w a n c l) : PSlS w a l := by
  rcases h.row with e | ⟨G, lo, hi, e, h1, h2, h3, h4, h5, h6⟩
  · have hl : l = [] := List.length_eq_zero_iff.1 (by rw [h.len]; exact e)
    subst hl
    exact ⟨.inl rfl, fun p hp => by cases hp⟩
  · subst e
    refine ⟨.inr ⟨G, 0, rfl, h5.lt, fun i hi => ?_⟩, fun p hp x hx => h6.sl x (zipPS_mem hp hx)⟩
    have hc := h5.cellsAt (List.getElem?_eq_getElem hi)
    simpa using hc
theorem PRoZ.lens {B E : Nat} {w : World} {a : Option Addr} {n c : Nat} {l : List (SV × SD)} (h : PRoZ B E w a n c l) : ∀ p ∈ l, p.1.lo.num.n ≤ maxLen ∧ p.1.lo.den.n ≤ maxLen ∧ p.1.hi.num.n ≤ maxLen ∧ p.1.hi.den.n ≤ maxLen := fun p hp => by
  have := h.ml p hp
  unfold maxLen
  omega
theorem PRoZ.max {B E : Nat} {w : World} {a : Option Addr} {n c : Nat} {l : List (SV × SD)} (h : PRoZ B E w a n c l) : n ≤ maxLen := by
  have := h.sz
  unfold maxLen
  omega
theorem mkPZ_ml {l : List (SV × SD)} (k : Int) (h : ∀ p ∈ l, p.1.lo.num.n ≤ 1048576 ∧ p.1.lo.den.n ≤ 1048576 ∧ p.1.hi.num.n ≤ 1048576 ∧ p.1.hi.den.n ≤ 1048576) : ∀ p ∈ mkPZ k l, p.1.lo.num.n ≤ 1048576 ∧ p.1.lo.den.n ≤ 1048576 ∧ p.1.hi.num.n ≤ 1048576 ∧ p.1.hi.den.n ≤ 1048576 := mkPZ_mem (fun q y hy => h y hy)
theorem markRZ (B E : Nat) (a : Option Addr) (n c : Nat) (l : List (SV × SD)) (w : World) (h : PRoZ B E w a n c l) (hE : E ≤ w.heap.size) :
    Calls Try.prog 12 #[.slice a n c, .int .i64 1] w fun e w' => e = .returned (.int .i64 (enZ 1 l)) ∧ But B E w w' ∧ PRoZ B E w' a n c (mkPZ 1 l) := by
  have hs := h.sz
  rcases h.row with e | ⟨G, lo, hi, e, h1, h2, h3, h4, h5, h6⟩
  · have hl : l = [] := List.length_eq_zero_iff.1 (by rw [h.len]; exact e)
    subst hl e
    refine (markPZ0 a c 1 w).mono ?_
    rintro e w' ⟨rfl, rfl⟩
    exact ⟨rfl, But.refl _ _ _, ⟨rfl, by simp [mkPZ, lenPS], fun p hp => (by cases hp), .inl rfl⟩⟩
  · subst e
    refine (markPZ G n c l 1 lo hi w h5 h6 h.len h.ml h2 h3 (by omega) (by omega)).mono ?_
    rintro e w' ⟨rfl, hb, hr, ho⟩
    exact ⟨rfl, hb.wide h1 h4, ⟨by rw [mkPZ_len]; exact h.len, by rw [mkPZ_lenP]; exact h.sz, mkPZ_ml 1 h.ml, .inr ⟨G, lo, hi, rfl, h1, h2, h3, h4, hr, ho⟩⟩⟩
theorem heldRZ (B E : Nat) (a : Option Addr) (n c : Nat) (l : List (SV × SD)) (w : World) (h : PRoZ B E w a n c (mkPZ 1 l)) (h0 : 4 * n + lenPS l ≤ 4200000) (ml : ∀ p ∈ l, p.1.lo.num.n ≤ 1048576 ∧ p.1.lo.den.n ≤ 1048576 ∧ p.1.hi.num.n ≤ 1048576 ∧ p.1.hi.den.n ≤ 1048576) :
    Calls Try.prog 13 #[.slice a n c, .int .i64 1] w fun e w' => e = .returned (.int .i64 (enZ 1 l)) ∧ w' = w := by
  have hl' : l.length = n := by have := h.len; rw [mkPZ_len] at this; exact this
  rcases h.row with e | ⟨G, lo, hi, e, h1, h2, h3, h4, h5, h6⟩
  · have hl : l = [] := List.length_eq_zero_iff.1 (by omega)
    subst hl e
    exact heldPZ0 a c 1 w
  · subst e
    exact heldPZ G n c l 1 w h5 h6.sl hl' ml (by omega) (by omega)
theorem POwS.ro {lo hi : Nat} {w : World} {G n c : Nat} {l : List (SV × SD)} (h : POwS lo hi w G n c l) (hG : G < lo) (hl : lo ≤ hi) (sz : 4 * n + lenPS l ≤ 4200000) (ml : ∀ p ∈ l, p.1.lo.num.n ≤ 1048576 ∧ p.1.lo.den.n ≤ 1048576 ∧ p.1.hi.num.n ≤ 1048576 ∧ p.1.hi.den.n ≤ 1048576) : PRoZ G hi w (some ⟨G, 0, none⟩) n c l := by
  refine ⟨h.len, sz, ml, .inr ⟨G, lo, hi, rfl, Nat.le_refl _, hG, hl, Nat.le_refl _, ?_, h.own⟩⟩
  obtain ⟨M, hr, hM⟩ := h.row
  rcases hr.2 with ⟨h', _⟩ | ⟨g', cap, cur, hv, _, hg, _, _, _, htake⟩
  · simp at h'
  simp only [Value.slice.injEq, Option.some.injEq, Addr.mk.injEq, and_true, true_and] at hv
  obtain ⟨rfl, rfl⟩ := hv
  refine ⟨cur, hg, fun j p hp => ?_⟩
  have hj : j < l.length := (List.getElem?_eq_some_iff.1 hp).1
  have hc := hM j hj
  have e : l[j] = p := by rw [List.getElem?_eq_getElem hj] at hp; exact Option.some.inj hp
  rw [e] at hc
  have hlen := h.len
  have up : ∀ t v, t < n * 8 → M[t]? = some v → cur[t]? = some v := fun t v ht hv => by
    rw [← htake, List.getElem?_take, if_pos ht] at hv
    simpa using hv
  exact ⟨up _ _ (by omega) hc.1, up _ _ (by omega) hc.2.1, up _ _ (by omega) hc.2.2.1, up _ _ (by omega) hc.2.2.2.1, up _ _ (by omega) hc.2.2.2.2.1, up _ _ (by omega) hc.2.2.2.2.2.1, up _ _ (by omega) hc.2.2.2.2.2.2.1, up _ _ (by omega) hc.2.2.2.2.2.2.2⟩
/-- The lengths of what is read. -/
def lenDZ : List SD → Nat
  | [] => 0
  | d :: l => d.lo.num.xs.length + d.lo.den.xs.length + d.hi.num.xs.length + d.hi.den.xs.length + lenDZ l
theorem lenPS_dataZ {l : List (SV × SD)} (h : ∀ p ∈ l, p.2.lo.num.xs.length = p.1.lo.num.n ∧ p.2.lo.den.xs.length = p.1.lo.den.n ∧ p.2.hi.num.xs.length = p.1.hi.num.n ∧ p.2.hi.den.xs.length = p.1.hi.den.n) : lenPS l = lenDZ (l.map Prod.snd) := by
  induction l with
  | nil => rfl
  | cons p l ih =>
    have h1 := h p List.mem_cons_self
    have h2 := ih (fun q hq => h q (List.mem_cons_of_mem _ hq))
    show p.1.lo.num.n + p.1.lo.den.n + p.1.hi.num.n + p.1.hi.den.n + lenPS l = p.2.lo.num.xs.length + p.2.lo.den.xs.length + p.2.hi.num.xs.length + p.2.hi.den.xs.length + lenDZ (l.map Prod.snd)
    omega
theorem PSlS.data {w : World} {a : Option Addr} {l : List (SV × SD)} (h : PSlS w a l) : ∀ p ∈ l, p.2.lo.num.xs.length = p.1.lo.num.n ∧ p.2.lo.den.xs.length = p.1.lo.den.n ∧ p.2.hi.num.xs.length = p.1.hi.num.n ∧ p.2.hi.den.xs.length = p.1.hi.den.n := fun p hp => ⟨(h.rd p hp).head.len, (h.rd p hp).tail.head.len, (h.rd p hp).tail.tail.head.len, (h.rd p hp).tail.tail.tail.head.len⟩
theorem lenPS_sndZ {w w' : World} {a a' : Option Addr} {l l' : List (SV × SD)} (h : PSlS w a l) (h' : PSlS w' a' l') (e : l.map Prod.snd = l'.map Prod.snd) : lenPS l = lenPS l' := by
  rw [lenPS_dataZ h.data, lenPS_dataZ h'.data, e]
theorem ml_sndZ {w w' : World} {a a' : Option Addr} {l l' : List (SV × SD)} (h : PSlS w a l) (h' : PSlS w' a' l') (e : l.map Prod.snd = l'.map Prod.snd) (ml : ∀ p ∈ l', p.1.lo.num.n ≤ 1048576 ∧ p.1.lo.den.n ≤ 1048576 ∧ p.1.hi.num.n ≤ 1048576 ∧ p.1.hi.den.n ≤ 1048576) : ∀ p ∈ l, p.1.lo.num.n ≤ 1048576 ∧ p.1.lo.den.n ≤ 1048576 ∧ p.1.hi.num.n ≤ 1048576 ∧ p.1.hi.den.n ≤ 1048576 := fun p hp => by
  have h1 : p.2 ∈ l'.map Prod.snd := by rw [← e]; exact List.mem_map.2 ⟨p, hp, rfl⟩
  obtain ⟨q, hq, e2⟩ := List.mem_map.1 h1
  have h2 := h.data p hp
  have h3 := h'.data q hq
  have h4 := ml q hq
  rw [e2] at h3
  omega
def RetPrZ (w : World) (U : List SD → Bool → Prop) (e : Ending) (w' : World) : Prop := ∃ (a : Option Addr) (n c : Nat) (l : List (SV × SD)) (ok : Bool), e = .returned (.tuple #[.slice a n c, .bool ok]) ∧ Below w.heap.size w w' ∧ PSlS w' a l ∧ l.length = n ∧ U (l.map Prod.snd) ok
def RetPoZ (w : World) (U : List SD → Bool → Prop) (e : Ending) (w' : World) : Prop := ∃ (a : Option Addr) (n c : Nat) (l : List (SV × SD)) (ok : Bool), e = .returned (.tuple #[.slice a n c, .bool ok]) ∧ Below w.heap.size w w' ∧ PRoZ w.heap.size w'.heap.size w' a n c l ∧ U (l.map Prod.snd) ok
end Go.Proofs.Ytokajpeopijneaa
namespace Go.Proofs.Ytokajpeopijneaa
open Go.RowKit
set_option linter.unusedVariables false
set_option maxRecDepth 100000
set_option linter.unusedSimpArgs false

/-- What is read is this point. -/
structure IsDP (p : Rat × Rat) (d : SD) : Prop where
  g1 : d.lo.num.g = decide (nR p.1 < 0)
  n1 : Nm d.lo.num.xs (nR p.1).natAbs
  g2 : d.lo.den.g = decide (dR p.1 < 0)
  n2 : Nm d.lo.den.xs (dR p.1).natAbs
  g3 : d.hi.num.g = decide (nR p.2 < 0)
  n3 : Nm d.hi.num.xs (nR p.2).natAbs
  g4 : d.hi.den.g = decide (dR p.2 < 0)
  n4 : Nm d.hi.den.xs (dR p.2).natAbs
theorem IsDP.same {p : Rat × Rat} {d e : SD} (h : IsDP p d) (k : IsDP p e) : d = e := by
  obtain ⟨⟨⟨a1, b1⟩, ⟨a2, b2⟩⟩, ⟨⟨a3, b3⟩, ⟨a4, b4⟩⟩⟩ := d
  obtain ⟨⟨⟨c1, d1⟩, ⟨c2, d2⟩⟩, ⟨⟨c3, d3⟩, ⟨c4, d4⟩⟩⟩ := e
  have e1 : a1 = c1 := h.g1.trans k.g1.symm
  have e2 : a2 = c2 := h.g2.trans k.g2.symm
  have e3 : a3 = c3 := h.g3.trans k.g3.symm
  have e4 : a4 = c4 := h.g4.trans k.g4.symm
  have f1 : b1 = d1 := h.n1.same k.n1
  have f2 : b2 = d2 := h.n2.same k.n2
  have f3 : b3 = d3 := h.n3.same k.n3
  have f4 : b4 = d4 := h.n4.same k.n4
  rw [e1, e2, e3, e4, f1, f2, f3, f4]
theorem IsDP.is {w : World} {v : SV} {p : Rat × Rat} {d : SD} (h : IsDP p d) (ha : AllAr w [(v.lo.num, d.lo.num), (v.lo.den, d.lo.den), (v.hi.num, d.hi.num), (v.hi.den, d.hi.den)]) : IsPt w v p := by
  have e1 : d.lo.num = ⟨decide (nR p.1 < 0), d.lo.num.xs⟩ := by rw [← h.g1]
  have e2 : d.lo.den = ⟨decide (dR p.1 < 0), d.lo.den.xs⟩ := by rw [← h.g2]
  have e3 : d.hi.num = ⟨decide (nR p.2 < 0), d.hi.num.xs⟩ := by rw [← h.g3]
  have e4 : d.hi.den = ⟨decide (dR p.2 < 0), d.hi.den.xs⟩ := by rw [← h.g4]
  have a1 := ha.head
  have a2 := ha.tail.head
  have a3 := ha.tail.tail.head
  have a4 := ha.tail.tail.tail.head
  rw [e1] at a1
  rw [e2] at a2
  rw [e3] at a3
  rw [e4] at a4
  exact ⟨⟨⟨_, a1, h.n1⟩, ⟨_, a2, h.n2⟩⟩, ⟨⟨_, a3, h.n3⟩, ⟨_, a4, h.n4⟩⟩⟩
theorem IsDP.lens {p : Rat × Rat} {d : SD} {L : Nat} (h : IsDP p d) (k : BdP p L) : d.lo.num.xs.length ≤ L ∧ d.lo.den.xs.length ≤ L ∧ d.hi.num.xs.length ≤ L ∧ d.hi.den.xs.length ≤ L := ⟨h.n1.len_le k.x.n, h.n2.len_le k.x.d, h.n3.len_le k.y.n, h.n4.len_le k.y.d⟩
/-- .. these points. -/
structure IsC (ps : List (Rat × Rat)) (ds : List SD) : Prop where
  len : ds.length = ps.length
  at_ : ∀ (i : Nat) (p : Rat × Rat) (d : SD), ps[i]? = some p → ds[i]? = some d → IsDP p d
theorem IsC.same {ps : List (Rat × Rat)} {ds es : List SD} (h : IsC ps ds) (k : IsC ps es) : ds = es := by
  apply List.ext_getElem?
  intro i
  by_cases hi : i < ps.length
  · have h1 : i < ds.length := by rw [h.len]; exact hi
    have h2 : i < es.length := by rw [k.len]; exact hi
    rw [List.getElem?_eq_getElem h1, List.getElem?_eq_getElem h2]
    congr 1
    exact (h.at_ i ps[i] ds[i] (List.getElem?_eq_getElem hi) (List.getElem?_eq_getElem h1)).same (k.at_ i ps[i] es[i] (List.getElem?_eq_getElem hi) (List.getElem?_eq_getElem h2))
  · rw [List.getElem?_eq_none (by rw [h.len]; omega), List.getElem?_eq_none (by rw [k.len]; omega)]
theorem isC_nil : IsC [] [] := ⟨rfl, fun i p d h => by simp at h⟩
theorem IsC.snoc {ps : List (Rat × Rat)} {ds : List SD} {p : Rat × Rat} {d : SD} (h : IsC ps ds) (k : IsDP p d) : IsC (ps ++ [p]) (ds ++ [d]) := by
  refine ⟨by simp [h.len], fun i q e hq he => ?_⟩
  by_cases hi : i < ps.length
  · rw [List.getElem?_append_left hi] at hq
    rw [List.getElem?_append_left (by rw [h.len]; exact hi)] at he
    exact h.at_ i q e hq he
  · rw [List.getElem?_append_right (by omega)] at hq
    rw [List.getElem?_append_right (by rw [h.len]; omega), h.len] at he
    by_cases h0 : i - ps.length = 0
    · rw [h0] at hq he
      simp only [List.getElem?_cons_zero, Option.some.injEq] at hq he
      subst hq he
      exact k
    · rw [List.getElem?_eq_none (by simp; omega)] at hq
      cases hq
/-- What a call answers: these points where they fit, or nothing. -/
def AnsC (P : Bool) (F : List SD → Bool) (ps : List (Rat × Rat)) (ds : List SD) (ok : Bool) : Prop := (P = true ∧ ∃ es, IsC ps es ∧ ((F es = true ∧ ok = true ∧ ds = es) ∨ (F es = false ∧ ok = false ∧ ds = []))) ∨ (P = false ∧ ok = false ∧ ds = [])
theorem AnsC.same {P : Bool} {F : List SD → Bool} {ps : List (Rat × Rat)} {d d' : List SD} {ok ok' : Bool} (h : AnsC P F ps d ok) (k : AnsC P F ps d' ok') : d = d' ∧ ok = ok' := by
  rcases h with ⟨p, es, h1, h2⟩ | ⟨p, h1, h2⟩ <;> rcases k with ⟨p', es', k1, k2⟩ | ⟨p', k1, k2⟩
  · obtain rfl := h1.same k1
    rcases h2 with ⟨a, b, c⟩ | ⟨a, b, c⟩ <;> rcases k2 with ⟨a', b', c'⟩ | ⟨a', b', c'⟩
    · exact ⟨c.trans c'.symm, b.trans b'.symm⟩
    · rw [a] at a'; cases a'
    · rw [a] at a'; cases a'
    · exact ⟨c.trans c'.symm, b.trans b'.symm⟩
  · rw [p] at p'; cases p'
  · rw [p] at p'; cases p'
  · exact ⟨h2.trans k2.symm, h1.trans k1.symm⟩
/-- A slice of points that reads so, limbs in blocks of integers. -/
structure ArZ (w : World) (a : Option Addr) (n c : Nat) (l : List (SV × SD)) : Prop where
  ar : PArS w a n c l
theorem owS_dp {w w' : World} {p : Rat × Rat} {e : Ending} (h : OutPt w p e w') : ∃ (v : SV) (d : SD), e = .returned (.agg #[.bool v.lo.num.g, .slice v.lo.num.a v.lo.num.n v.lo.num.c, .bool v.lo.den.g, .slice v.lo.den.a v.lo.den.n v.lo.den.c, .bool v.hi.num.g, .slice v.hi.num.a v.hi.num.n v.hi.num.c, .bool v.hi.den.g, .slice v.hi.den.a v.hi.den.n v.hi.den.c]) ∧ Below w.heap.size w w' ∧ AllOwn w.heap.size w'.heap.size w' [(v.lo.num, d.lo.num), (v.lo.den, d.lo.den), (v.hi.num, d.hi.num), (v.hi.den, d.hi.den)] ∧ AllAr w' [(v.lo.num, d.lo.num), (v.lo.den, d.lo.den), (v.hi.num, d.hi.num), (v.hi.den, d.hi.den)] ∧ IsDP p d := by
  obtain ⟨v, xs, us, ys, vs, rfl, hb, ho, ha, n1, n2, n3, n4⟩ := h
  exact ⟨v, ⟨⟨⟨_, xs⟩, ⟨_, us⟩⟩, ⟨⟨_, ys⟩, ⟨_, vs⟩⟩⟩, rfl, hb, ho, ha, ⟨rfl, n1, rfl, n2, rfl, n3, rfl, n4⟩⟩
/-- An answer of a call of the program's, with its data. -/
def OutD (w : World) (p : Rat × Rat) (e : Ending) (w' : World) : Prop := ∃ (v : SV) (d : SD), e = .returned (.agg #[.bool v.lo.num.g, .slice v.lo.num.a v.lo.num.n v.lo.num.c, .bool v.lo.den.g, .slice v.lo.den.a v.lo.den.n v.lo.den.c, .bool v.hi.num.g, .slice v.hi.num.a v.hi.num.n v.hi.num.c, .bool v.hi.den.g, .slice v.hi.den.a v.hi.den.n v.hi.den.c]) ∧ Below w.heap.size w w' ∧ AllOwn w.heap.size w'.heap.size w' [(v.lo.num, d.lo.num), (v.lo.den, d.lo.den), (v.hi.num, d.hi.num), (v.hi.den, d.hi.den)] ∧ AllAr w' [(v.lo.num, d.lo.num), (v.lo.den, d.lo.den), (v.hi.num, d.hi.num), (v.hi.den, d.hi.den)] ∧ IsDP p d
theorem calls_dp {f : Nat} {vs : Array Value} {w : World} {p : Rat × Rat} (h : Calls Try.prog f vs w (OutPt w p)) : Calls Try.prog f vs w (OutD w p) := h.mono fun e w' k => owS_dp k
theorem allSl_ar_mem {w : World} {l : List (SV × SD)} (h : ∀ p ∈ l, AllAr w [(p.1.lo.num, p.2.lo.num), (p.1.lo.den, p.2.lo.den), (p.1.hi.num, p.2.hi.num), (p.1.hi.den, p.2.hi.den)]) : AllAr w (zipPS l) := fun x hx => by
  obtain ⟨p, hp, hx⟩ := List.mem_flatMap.1 hx
  exact h p hp x hx
theorem rep_rowS {M : List Value} {us : List (SV × SD)} {n k : Nat} {u : SV} {d : SD} (hM : M.length = n * 8) (hn : us.length = n) (hk : k < n) (h : ∀ i (h : i < us.length), M[i * 8]? = some (.bool us[i].1.lo.num.g) ∧ M[i * 8 + 1]? = some (.slice us[i].1.lo.num.a us[i].1.lo.num.n us[i].1.lo.num.c) ∧ M[i * 8 + 2]? = some (.bool us[i].1.lo.den.g) ∧ M[i * 8 + 3]? = some (.slice us[i].1.lo.den.a us[i].1.lo.den.n us[i].1.lo.den.c) ∧ M[i * 8 + 4]? = some (.bool us[i].1.hi.num.g) ∧ M[i * 8 + 5]? = some (.slice us[i].1.hi.num.a us[i].1.hi.num.n us[i].1.hi.num.c) ∧ M[i * 8 + 6]? = some (.bool us[i].1.hi.den.g) ∧ M[i * 8 + 7]? = some (.slice us[i].1.hi.den.a us[i].1.hi.den.n us[i].1.hi.den.c)) :
    ∀ i (h : i < (us.set k (u, d)).length), ((((((((M.set (k * 8) (.bool u.lo.num.g)).set (k * 8 + 1) (.slice u.lo.num.a u.lo.num.n u.lo.num.c)).set (k * 8 + 2) (.bool u.lo.den.g)).set (k * 8 + 3) (.slice u.lo.den.a u.lo.den.n u.lo.den.c)).set (k * 8 + 4) (.bool u.hi.num.g)).set (k * 8 + 5) (.slice u.hi.num.a u.hi.num.n u.hi.num.c)).set (k * 8 + 6) (.bool u.hi.den.g)).set (k * 8 + 7) (.slice u.hi.den.a u.hi.den.n u.hi.den.c))[i * 8]? = some (.bool (us.set k (u, d))[i].1.lo.num.g) ∧ ((((((((M.set (k * 8) (.bool u.lo.num.g)).set (k * 8 + 1) (.slice u.lo.num.a u.lo.num.n u.lo.num.c)).set (k * 8 + 2) (.bool u.lo.den.g)).set (k * 8 + 3) (.slice u.lo.den.a u.lo.den.n u.lo.den.c)).set (k * 8 + 4) (.bool u.hi.num.g)).set (k * 8 + 5) (.slice u.hi.num.a u.hi.num.n u.hi.num.c)).set (k * 8 + 6) (.bool u.hi.den.g)).set (k * 8 + 7) (.slice u.hi.den.a u.hi.den.n u.hi.den.c))[i * 8 + 1]? = some (.slice (us.set k (u, d))[i].1.lo.num.a (us.set k (u, d))[i].1.lo.num.n (us.set k (u, d))[i].1.lo.num.c) ∧ ((((((((M.set (k * 8) (.bool u.lo.num.g)).set (k * 8 + 1) (.slice u.lo.num.a u.lo.num.n u.lo.num.c)).set (k * 8 + 2) (.bool u.lo.den.g)).set (k * 8 + 3) (.slice u.lo.den.a u.lo.den.n u.lo.den.c)).set (k * 8 + 4) (.bool u.hi.num.g)).set (k * 8 + 5) (.slice u.hi.num.a u.hi.num.n u.hi.num.c)).set (k * 8 + 6) (.bool u.hi.den.g)).set (k * 8 + 7) (.slice u.hi.den.a u.hi.den.n u.hi.den.c))[i * 8 + 2]? = some (.bool (us.set k (u, d))[i].1.lo.den.g) ∧ ((((((((M.set (k * 8) (.bool u.lo.num.g)).set (k * 8 + 1) (.slice u.lo.num.a u.lo.num.n u.lo.num.c)).set (k * 8 + 2) (.bool u.lo.den.g)).set (k * 8 + 3) (.slice u.lo.den.a u.lo.den.n u.lo.den.c)).set (k * 8 + 4) (.bool u.hi.num.g)).set (k * 8 + 5) (.slice u.hi.num.a u.hi.num.n u.hi.num.c)).set (k * 8 + 6) (.bool u.hi.den.g)).set (k * 8 + 7) (.slice u.hi.den.a u.hi.den.n u.hi.den.c))[i * 8 + 3]? = some (.slice (us.set k (u, d))[i].1.lo.den.a (us.set k (u, d))[i].1.lo.den.n (us.set k (u, d))[i].1.lo.den.c) ∧ ((((((((M.set (k * 8) (.bool u.lo.num.g)).set (k * 8 + 1) (.slice u.lo.num.a u.lo.num.n u.lo.num.c)).set (k * 8 + 2) (.bool u.lo.den.g)).set (k * 8 + 3) (.slice u.lo.den.a u.lo.den.n u.lo.den.c)).set (k * 8 + 4) (.bool u.hi.num.g)).set (k * 8 + 5) (.slice u.hi.num.a u.hi.num.n u.hi.num.c)).set (k * 8 + 6) (.bool u.hi.den.g)).set (k * 8 + 7) (.slice u.hi.den.a u.hi.den.n u.hi.den.c))[i * 8 + 4]? = some (.bool (us.set k (u, d))[i].1.hi.num.g) ∧ ((((((((M.set (k * 8) (.bool u.lo.num.g)).set (k * 8 + 1) (.slice u.lo.num.a u.lo.num.n u.lo.num.c)).set (k * 8 + 2) (.bool u.lo.den.g)).set (k * 8 + 3) (.slice u.lo.den.a u.lo.den.n u.lo.den.c)).set (k * 8 + 4) (.bool u.hi.num.g)).set (k * 8 + 5) (.slice u.hi.num.a u.hi.num.n u.hi.num.c)).set (k * 8 + 6) (.bool u.hi.den.g)).set (k * 8 + 7) (.slice u.hi.den.a u.hi.den.n u.hi.den.c))[i * 8 + 5]? = some (.slice (us.set k (u, d))[i].1.hi.num.a (us.set k (u, d))[i].1.hi.num.n (us.set k (u, d))[i].1.hi.num.c) ∧ ((((((((M.set (k * 8) (.bool u.lo.num.g)).set (k * 8 + 1) (.slice u.lo.num.a u.lo.num.n u.lo.num.c)).set (k * 8 + 2) (.bool u.lo.den.g)).set (k * 8 + 3) (.slice u.lo.den.a u.lo.den.n u.lo.den.c)).set (k * 8 + 4) (.bool u.hi.num.g)).set (k * 8 + 5) (.slice u.hi.num.a u.hi.num.n u.hi.num.c)).set (k * 8 + 6) (.bool u.hi.den.g)).set (k * 8 + 7) (.slice u.hi.den.a u.hi.den.n u.hi.den.c))[i * 8 + 6]? = some (.bool (us.set k (u, d))[i].1.hi.den.g) ∧ ((((((((M.set (k * 8) (.bool u.lo.num.g)).set (k * 8 + 1) (.slice u.lo.num.a u.lo.num.n u.lo.num.c)).set (k * 8 + 2) (.bool u.lo.den.g)).set (k * 8 + 3) (.slice u.lo.den.a u.lo.den.n u.lo.den.c)).set (k * 8 + 4) (.bool u.hi.num.g)).set (k * 8 + 5) (.slice u.hi.num.a u.hi.num.n u.hi.num.c)).set (k * 8 + 6) (.bool u.hi.den.g)).set (k * 8 + 7) (.slice u.hi.den.a u.hi.den.n u.hi.den.c))[i * 8 + 7]? = some (.slice (us.set k (u, d))[i].1.hi.den.a (us.set k (u, d))[i].1.hi.den.n (us.set k (u, d))[i].1.hi.den.c) := by
  intro i hi
  have hi' : i < us.length := by simpa using hi
  by_cases e : i = k
  · subst e
    rw [List.getElem_set_self]
    refine ⟨?_, ?_, ?_, ?_, ?_, ?_, ?_, ?_⟩
    · simp only [List.getElem?_set, List.length_set]; rw [if_neg (by omega), if_neg (by omega), if_neg (by omega), if_neg (by omega), if_neg (by omega), if_neg (by omega), if_neg (by omega)]; rw [if_pos trivial, if_pos (by omega)]
    · simp only [List.getElem?_set, List.length_set]; rw [if_neg (by omega), if_neg (by omega), if_neg (by omega), if_neg (by omega), if_neg (by omega), if_neg (by omega)]; rw [if_pos trivial, if_pos (by omega)]
    · simp only [List.getElem?_set, List.length_set]; rw [if_neg (by omega), if_neg (by omega), if_neg (by omega), if_neg (by omega), if_neg (by omega)]; rw [if_pos trivial, if_pos (by omega)]
    · simp only [List.getElem?_set, List.length_set]; rw [if_neg (by omega), if_neg (by omega), if_neg (by omega), if_neg (by omega)]; rw [if_pos trivial, if_pos (by omega)]
    · simp only [List.getElem?_set, List.length_set]; rw [if_neg (by omega), if_neg (by omega), if_neg (by omega)]; rw [if_pos trivial, if_pos (by omega)]
    · simp only [List.getElem?_set, List.length_set]; rw [if_neg (by omega), if_neg (by omega)]; rw [if_pos trivial, if_pos (by omega)]
    · simp only [List.getElem?_set, List.length_set]; rw [if_neg (by omega)]; rw [if_pos trivial, if_pos (by omega)]
    · simp only [List.getElem?_set, List.length_set]; rw [if_pos trivial, if_pos (by omega)]
  · have h1 := h i hi'
    rw [List.getElem_set_ne (Ne.symm e)]
    simp only [List.getElem?_set]
    refine ⟨?_, ?_, ?_, ?_, ?_, ?_, ?_, ?_⟩
    · rw [if_neg (by omega), if_neg (by omega), if_neg (by omega), if_neg (by omega), if_neg (by omega), if_neg (by omega), if_neg (by omega), if_neg (by omega)]; exact h1.1
    · rw [if_neg (by omega), if_neg (by omega), if_neg (by omega), if_neg (by omega), if_neg (by omega), if_neg (by omega), if_neg (by omega), if_neg (by omega)]; exact h1.2.1
    · rw [if_neg (by omega), if_neg (by omega), if_neg (by omega), if_neg (by omega), if_neg (by omega), if_neg (by omega), if_neg (by omega), if_neg (by omega)]; exact h1.2.2.1
    · rw [if_neg (by omega), if_neg (by omega), if_neg (by omega), if_neg (by omega), if_neg (by omega), if_neg (by omega), if_neg (by omega), if_neg (by omega)]; exact h1.2.2.2.1
    · rw [if_neg (by omega), if_neg (by omega), if_neg (by omega), if_neg (by omega), if_neg (by omega), if_neg (by omega), if_neg (by omega), if_neg (by omega)]; exact h1.2.2.2.2.1
    · rw [if_neg (by omega), if_neg (by omega), if_neg (by omega), if_neg (by omega), if_neg (by omega), if_neg (by omega), if_neg (by omega), if_neg (by omega)]; exact h1.2.2.2.2.2.1
    · rw [if_neg (by omega), if_neg (by omega), if_neg (by omega), if_neg (by omega), if_neg (by omega), if_neg (by omega), if_neg (by omega), if_neg (by omega)]; exact h1.2.2.2.2.2.2.1
    · rw [if_neg (by omega), if_neg (by omega), if_neg (by omega), if_neg (by omega), if_neg (by omega), if_neg (by omega), if_neg (by omega), if_neg (by omega)]; exact h1.2.2.2.2.2.2.2
theorem AllOwn.replZ {lo hi hi' : Nat} {w : World} {A R B U : List (BV × BD)} (h : AllOwn lo hi w (A ++ R ++ B)) (k : AllOwn hi hi' w U) (h1 : lo ≤ hi) (h2 : hi ≤ hi') : AllOwn lo hi' w (A ++ U ++ B) := by
  have hAp : (A ++ R).Pairwise Ap ∧ B.Pairwise Ap ∧ ∀ p ∈ A ++ R, ∀ q ∈ B, Ap p q := List.pairwise_append.1 h.ap
  have hA := (List.pairwise_append.1 hAp.1).1
  have oA : ∀ p ∈ A, OwB2 lo hi w p.1 p.2 := fun p hp => h.own p (List.mem_append_left _ (List.mem_append_left _ hp))
  have oB : ∀ p ∈ B, OwB2 lo hi w p.1 p.2 := fun p hp => h.own p (List.mem_append_right _ hp)
  refine ⟨fun p hp => ?_, List.pairwise_append.2 ⟨List.pairwise_append.2 ⟨hA, k.ap, fun p hp q hq => dis_parts (oA p hp).own (k.own q hq).own (.inl (Nat.le_refl _))⟩, hAp.2.1, fun p hp q hq => ?_⟩⟩
  · rcases List.mem_append.1 hp with hp | hp
    · rcases List.mem_append.1 hp with hp | hp
      · exact ⟨(oA p hp).sg, (oA p hp).own.wide (Nat.le_refl _) h2, (oA p hp).len⟩
      · exact ⟨(k.own p hp).sg, (k.own p hp).own.wide h1 (Nat.le_refl _), (k.own p hp).len⟩
    · exact ⟨(oB p hp).sg, (oB p hp).own.wide (Nat.le_refl _) h2, (oB p hp).len⟩
  · rcases List.mem_append.1 hp with hp | hp
    · exact hAp.2.2 p (List.mem_append_left _ hp) q hq
    · exact dis_parts (k.own p hp).own (oB q hq).own (.inr (Nat.le_refl _))
theorem zipS_set {us : List (SV × SD)} {k : Nat} {u : SV × SD} (h : k < us.length) : zipPS us = zipPS (us.take k) ++ zipPS [us[k]] ++ zipPS (us.drop (k + 1)) ∧ zipPS (us.set k u) = zipPS (us.take k) ++ zipPS [u] ++ zipPS (us.drop (k + 1)) := by
  constructor
  · rw [← zipPS_append, ← zipPS_append]
    congr 1
    rw [List.append_assoc]
    show us = us.take k ++ (us[k] :: us.drop (k + 1))
    rw [← List.drop_eq_getElem_cons h, List.take_append_drop]
  · rw [← zipPS_append, ← zipPS_append]
    congr 1
    rw [List.set_eq_take_append_cons_drop, if_pos h, List.append_assoc]
    rfl
/-- A row of n points that the call makes at block B, and fills: us are in it. -/
structure GrZ (B n : Nat) (w : World) (us : List (SV × SD)) : Prop where
  row : ∃ M, w.ownsRow B 44 8 (.slice (some ⟨B, 0, none⟩) n n) n M ∧ ∀ i (h : i < us.length), M[i * 8]? = some (.bool us[i].1.lo.num.g) ∧ M[i * 8 + 1]? = some (.slice us[i].1.lo.num.a us[i].1.lo.num.n us[i].1.lo.num.c) ∧ M[i * 8 + 2]? = some (.bool us[i].1.lo.den.g) ∧ M[i * 8 + 3]? = some (.slice us[i].1.lo.den.a us[i].1.lo.den.n us[i].1.lo.den.c) ∧ M[i * 8 + 4]? = some (.bool us[i].1.hi.num.g) ∧ M[i * 8 + 5]? = some (.slice us[i].1.hi.num.a us[i].1.hi.num.n us[i].1.hi.num.c) ∧ M[i * 8 + 6]? = some (.bool us[i].1.hi.den.g) ∧ M[i * 8 + 7]? = some (.slice us[i].1.hi.den.a us[i].1.hi.den.n us[i].1.hi.den.c)
  own : AllOwn (B + 1) w.heap.size w (zipPS us)
  ar : ∀ p ∈ us, AllAr w [(p.1.lo.num, p.2.lo.num), (p.1.lo.den, p.2.lo.den), (p.1.hi.num, p.2.hi.num), (p.1.hi.den, p.2.hi.den)]
  lt : B < w.heap.size
  len : us.length = n
theorem GrZ.later {B n : Nat} {w w' : World} {us : List (SV × SD)} (h : GrZ B n w us) (hb : Below w.heap.size w w') : GrZ B n w' us := by
  obtain ⟨M, hr, hM⟩ := h.row
  exact ⟨⟨M, ownsRow_laterS hr hb, hM⟩, (h.own.later hb).wide (Nat.le_refl _) hb.size, fun p hp => (h.ar p hp).later hb, Nat.lt_of_lt_of_le h.lt hb.size, h.len⟩
theorem GrZ.old {B n : Nat} {w : World} {us : List (SV × SD)} (h : GrZ B n w us) {o : Nat} (ho : o < n * 8) : ∃ x, w.cell? ⟨B, o, none⟩ = some x := by
  obtain ⟨M, hr, hM⟩ := h.row
  have hl := hr.1
  rw [hr.cellAt _ (by omega)]
  exact ⟨_, List.getElem?_eq_getElem (by omega)⟩
theorem GrZ.fz {B n : Nat} {w : World} {us : List (SV × SD)} (h : GrZ B n w us) (o : Nat) : w.frozen? ⟨B, o, none⟩ = false := by
  obtain ⟨M, hr, hM⟩ := h.row
  exact hr.frozenAt o
theorem GrZ.put {B n k : Nat} {wr w : World} {us : List (SV × SD)} {u : SV} {d : SD} (h : GrZ B n wr us) (hb : Below wr.heap.size wr w) (hk : k < n) (ho : AllOwn wr.heap.size w.heap.size w [(u.lo.num, d.lo.num), (u.lo.den, d.lo.den), (u.hi.num, d.hi.num), (u.hi.den, d.hi.den)]) (ha : AllAr w [(u.lo.num, d.lo.num), (u.lo.den, d.lo.den), (u.hi.num, d.hi.num), (u.hi.den, d.hi.den)]) :
    GrZ B n ((((((((w.setCell ⟨B, k * 8, none⟩ (.bool u.lo.num.g)).setCell ⟨B, k * 8 + 1, none⟩ (.slice u.lo.num.a u.lo.num.n u.lo.num.c)).setCell ⟨B, k * 8 + 2, none⟩ (.bool u.lo.den.g)).setCell ⟨B, k * 8 + 3, none⟩ (.slice u.lo.den.a u.lo.den.n u.lo.den.c)).setCell ⟨B, k * 8 + 4, none⟩ (.bool u.hi.num.g)).setCell ⟨B, k * 8 + 5, none⟩ (.slice u.hi.num.a u.hi.num.n u.hi.num.c)).setCell ⟨B, k * 8 + 6, none⟩ (.bool u.hi.den.g)).setCell ⟨B, k * 8 + 7, none⟩ (.slice u.hi.den.a u.hi.den.n u.hi.den.c)) (us.set k (u, d)) := by
  have h2 := h.later hb
  obtain ⟨M, hM, hL⟩ := h2.row
  have bt : But B (B + 1) w ((((((((w.setCell ⟨B, k * 8, none⟩ (.bool u.lo.num.g)).setCell ⟨B, k * 8 + 1, none⟩ (.slice u.lo.num.a u.lo.num.n u.lo.num.c)).setCell ⟨B, k * 8 + 2, none⟩ (.bool u.lo.den.g)).setCell ⟨B, k * 8 + 3, none⟩ (.slice u.lo.den.a u.lo.den.n u.lo.den.c)).setCell ⟨B, k * 8 + 4, none⟩ (.bool u.hi.num.g)).setCell ⟨B, k * 8 + 5, none⟩ (.slice u.hi.num.a u.hi.num.n u.hi.num.c)).setCell ⟨B, k * 8 + 6, none⟩ (.bool u.hi.den.g)).setCell ⟨B, k * 8 + 7, none⟩ (.slice u.hi.den.a u.hi.den.n u.hi.den.c)) := but_rowS
  have hkl : k < us.length := by rw [h.len]; exact hk
  have own := AllOwn.replZ (U := zipPS [(u, d)]) (by have := h.own.later hb; rw [(zipS_set (u := (u, d)) hkl).1] at this; exact this) (by rw [zipPS_one]; exact ho) (Nat.succ_le_of_lt h.lt) hb.size
  rw [← (zipS_set (u := (u, d)) hkl).2] at own
  have ar : AllAr w (zipPS (us.set k (u, d))) := allSl_ar_mem (fun p hp => by
    rcases List.mem_or_eq_of_mem_set hp with hp | rfl
    · exact h2.ar p hp
    · exact ha)
  refine ⟨⟨_, (World.ownsRow.stored (World.ownsRow.stored (World.ownsRow.stored (World.ownsRow.stored (World.ownsRow.stored (World.ownsRow.stored (World.ownsRow.stored (World.ownsRow.stored hM (k * 8) (.bool u.lo.num.g)).1 (k * 8 + 1) (.slice u.lo.num.a u.lo.num.n u.lo.num.c)).1 (k * 8 + 2) (.bool u.lo.den.g)).1 (k * 8 + 3) (.slice u.lo.den.a u.lo.den.n u.lo.den.c)).1 (k * 8 + 4) (.bool u.hi.num.g)).1 (k * 8 + 5) (.slice u.hi.num.a u.hi.num.n u.hi.num.c)).1 (k * 8 + 6) (.bool u.hi.den.g)).1 (k * 8 + 7) (.slice u.hi.den.a u.hi.den.n u.hi.den.c)).1, rep_rowS hM.1 h.len hk hL⟩, (own.but bt (.inr (Nat.le_refl _))).wide (Nat.le_refl _) bt.size, fun p hp x hx => ar_fin bt own ar (Nat.le_refl _) x (zipPS_mem hp hx), Nat.lt_of_lt_of_le h2.lt bt.size, by rw [List.length_set]; exact h.len⟩
theorem GrZ.bel {B n k : Nat} {w0 w : World} {u : SV} (hb : Below w0.heap.size w0 w) (hB : w0.heap.size ≤ B) : Below w0.heap.size w0 ((((((((w.setCell ⟨B, k * 8, none⟩ (.bool u.lo.num.g)).setCell ⟨B, k * 8 + 1, none⟩ (.slice u.lo.num.a u.lo.num.n u.lo.num.c)).setCell ⟨B, k * 8 + 2, none⟩ (.bool u.lo.den.g)).setCell ⟨B, k * 8 + 3, none⟩ (.slice u.lo.den.a u.lo.den.n u.lo.den.c)).setCell ⟨B, k * 8 + 4, none⟩ (.bool u.hi.num.g)).setCell ⟨B, k * 8 + 5, none⟩ (.slice u.hi.num.a u.hi.num.n u.hi.num.c)).setCell ⟨B, k * 8 + 6, none⟩ (.bool u.hi.den.g)).setCell ⟨B, k * 8 + 7, none⟩ (.slice u.hi.den.a u.hi.den.n u.hi.den.c)) := (but_rowS (w := w) (G := B) (k := k) (u := u)).below hb hB hb.size
def zSV : SV := ⟨⟨⟨false, none, 0, 0⟩, ⟨false, none, 0, 0⟩⟩, ⟨⟨false, none, 0, 0⟩, ⟨false, none, 0, 0⟩⟩⟩
def zSD : SD := ⟨⟨⟨false, []⟩, ⟨false, []⟩⟩, ⟨⟨false, []⟩, ⟨false, []⟩⟩⟩
theorem zips_zero (lo hi : Nat) (w : World) (n : Nat) : AllOwn lo hi w (zipPS (List.replicate n (zSV, zSD))) := by
  have mem : ∀ p ∈ zipPS (List.replicate n (zSV, zSD)), p = ((⟨false, none, 0, 0⟩ : BV), (⟨false, []⟩ : BD)) := fun p hp => by
    obtain ⟨q, hq, hp⟩ := List.mem_flatMap.1 hp
    obtain rfl := (List.mem_replicate.1 hq).2
    simpa [zSV, zSD] using hp
  refine ⟨fun p hp => ?_, List.pairwise_of_forall_mem_list (fun p hp q hq => ?_)⟩
  · rw [mem p hp]
    exact ⟨rfl, .inl rfl, rfl⟩
  · rw [mem p hp]
    exact .inl rfl
theorem zero_ar (w : World) : AllAr w [(zSV.lo.num, zSD.lo.num), (zSV.lo.den, zSD.lo.den), (zSV.hi.num, zSD.hi.num), (zSV.hi.den, zSD.hi.den)] := fun p hp => by
  have hp : p = ((⟨false, none, 0, 0⟩ : BV), (⟨false, []⟩ : BD)) := by simpa [zSV, zSD] using hp
  subst hp
  exact ⟨rfl, Arg.none w⟩
theorem GrZ.start {n : Nat} {w w1 : World} (hr : w1.ownsRow w.heap.size 44 8 (.slice (some ⟨w.heap.size, 0, none⟩) n n) n (madeCells #[.bool false, .slice none 0 0, .bool false, .slice none 0 0, .bool false, .slice none 0 0, .bool false, .slice none 0 0] (n * 8)).toList) (hb : Below w.heap.size w w1) : GrZ w.heap.size n w1 (List.replicate n (zSV, zSD)) := by
  have lt : w.heap.size < w1.heap.size := by
    rcases hr.2 with ⟨h', _⟩ | ⟨g', cap, cur, hv, _, hg, _⟩
    · simp at h'
    · simp only [Value.slice.injEq, Option.some.injEq, Addr.mk.injEq, and_true, true_and] at hv
      have := (Array.getElem?_eq_some_iff.1 hg).1
      omega
  refine ⟨⟨_, hr, fun i hi => ?_⟩, zips_zero _ _ _ _, fun p hp => ?_, lt, List.length_replicate⟩
  · have hi' : i < n := by simpa using hi
    have e : (List.replicate n (zSV, zSD))[i].1 = zSV := by rw [List.getElem_replicate]
    rw [e]
    refine ⟨?_, ?_, ?_, ?_, ?_, ?_, ?_, ?_⟩ <;> (unfold madeCells; simp only [Array.toList_map, Array.toList_range, List.getElem?_map]; rw [List.getElem?_range (by omega)]; simp [zSV, Nat.mul_add_mod, Nat.mul_mod_left]; try rfl)
  · obtain rfl := (List.mem_replicate.1 hp).2
    exact zero_ar w1
end Go.Proofs.Ytokajpeopijneaa
namespace Go.Proofs.Ytokajpeopijneaa
open Go.RowKit
set_option linter.unusedVariables false
set_option maxRecDepth 100000
set_option linter.unusedSimpArgs false

/-- The cells of some points, one after another. -/
def flatZ : List (SV × SD) → List Value
  | [] => []
  | p :: l => (Value.bool p.1.lo.num.g : Value) :: (Value.slice p.1.lo.num.a p.1.lo.num.n p.1.lo.num.c : Value) :: (Value.bool p.1.lo.den.g : Value) :: (Value.slice p.1.lo.den.a p.1.lo.den.n p.1.lo.den.c : Value) :: (Value.bool p.1.hi.num.g : Value) :: (Value.slice p.1.hi.num.a p.1.hi.num.n p.1.hi.num.c : Value) :: (Value.bool p.1.hi.den.g : Value) :: (Value.slice p.1.hi.den.a p.1.hi.den.n p.1.hi.den.c : Value) :: flatZ l
theorem flatZ_len (l : List (SV × SD)) : (flatZ l).length = l.length * 8 := by
  induction l with
  | nil => rfl
  | cons p l ih => show (flatZ l).length + 1 + 1 + 1 + 1 + 1 + 1 + 1 + 1 = (l.length + 1) * 8; omega
theorem flatZ_append (l l' : List (SV × SD)) : flatZ (l ++ l') = flatZ l ++ flatZ l' := by
  induction l with
  | nil => rfl
  | cons p l ih => simp only [List.cons_append, flatZ, ih]
theorem flatZ_get (l : List (SV × SD)) : ∀ i (h : i < l.length), (flatZ l)[i * 8]? = some (.bool l[i].1.lo.num.g) ∧ (flatZ l)[i * 8 + 1]? = some (.slice l[i].1.lo.num.a l[i].1.lo.num.n l[i].1.lo.num.c) ∧ (flatZ l)[i * 8 + 2]? = some (.bool l[i].1.lo.den.g) ∧ (flatZ l)[i * 8 + 3]? = some (.slice l[i].1.lo.den.a l[i].1.lo.den.n l[i].1.lo.den.c) ∧ (flatZ l)[i * 8 + 4]? = some (.bool l[i].1.hi.num.g) ∧ (flatZ l)[i * 8 + 5]? = some (.slice l[i].1.hi.num.a l[i].1.hi.num.n l[i].1.hi.num.c) ∧ (flatZ l)[i * 8 + 6]? = some (.bool l[i].1.hi.den.g) ∧ (flatZ l)[i * 8 + 7]? = some (.slice l[i].1.hi.den.a l[i].1.hi.den.n l[i].1.hi.den.c) := by
  induction l with
  | nil => intro i h; simp at h
  | cons p l ih =>
    intro i h
    match i with
    | 0 => exact ⟨rfl, rfl, rfl, rfl, rfl, rfl, rfl, rfl⟩
    | i + 1 =>
      have h1 := ih i (by simpa using h)
      have e : ∀ c, (i + 1) * 8 + c = (i * 8 + c) + 1 + 1 + 1 + 1 + 1 + 1 + 1 + 1 := fun c => by omega
      have e0 : (i + 1) * 8 = (i * 8) + 1 + 1 + 1 + 1 + 1 + 1 + 1 + 1 := by omega
      refine ⟨?_, ?_, ?_, ?_, ?_, ?_, ?_, ?_⟩
      · rw [e0]; exact h1.1
      · rw [e]; exact h1.2.1
      · rw [e]; exact h1.2.2.1
      · rw [e]; exact h1.2.2.2.1
      · rw [e]; exact h1.2.2.2.2.1
      · rw [e]; exact h1.2.2.2.2.2.1
      · rw [e]; exact h1.2.2.2.2.2.2.1
      · rw [e]; exact h1.2.2.2.2.2.2.2
/-- Limbs in blocks of integers. -/
def TypZ (w : World) (l : List (BV × BD)) : Prop := ∀ p ∈ l, ∃ lo hi, Own2 lo hi w p.1.a p.2.xs
theorem TypZ.later {w w' : World} {l : List (BV × BD)} (h : TypZ w l) (hb : Below w.heap.size w w') : TypZ w' l := fun p hp => by
  obtain ⟨lo, hi, ho⟩ := h p hp
  exact ⟨lo, hi, ho.later hb⟩
theorem TypZ.append {w : World} {l m : List (BV × BD)} (h : TypZ w l) (k : TypZ w m) : TypZ w (l ++ m) := fun p hp => by
  rcases List.mem_append.1 hp with hp | hp
  · exact h p hp
  · exact k p hp
theorem AllOwn.typZ {lo hi : Nat} {w : World} {l : List (BV × BD)} (h : AllOwn lo hi w l) : TypZ w l := fun p hp => ⟨lo, hi, (h.own p hp).own⟩
theorem TypZ.grown {w w' : World} {l : List (BV × BD)} {v : Value} {n B : Nat} {M : List Value} (h : TypZ w l) (hg : w.grownBy w' v.ownBlock) (hr : w.ownsRow B 44 8 v n M) : TypZ w' l := fun p hp => by
  obtain ⟨lo, hi, ho⟩ := h p hp
  refine ⟨lo, hi, ?_⟩
  rcases ho with e | ⟨b, cur, e, h1, h2, hb, hc⟩
  · exact .inl e
  · refine .inr ⟨b, cur, e, h1, h2, ?_, hc⟩
    rw [hg.block b (Array.getElem?_eq_some_iff.1 hb).1 (fun eb => ?_)]
    · exact hb
    · rcases hr.2 with ⟨h', _⟩ | ⟨g', cap, cur', hv, _, hgt, _⟩
      · rw [h'] at eb; simp [Value.ownBlock] at eb
      · rw [hv] at eb
        simp only [Value.ownBlock, Option.some.injEq] at eb
        subst eb
        rw [hb] at hgt
        simp only [Option.some.injEq, Obj.cells.injEq] at hgt
        exact absurd hgt.2.1 (by decide)
theorem TypZ.ar {w w' : World} {l : List (BV × BD)} (ho : TypZ w' l) (ha : AllAr w l) : AllAr w' l := fun p hp => by
  obtain ⟨lo, hi, h⟩ := ho p hp
  exact ⟨(ha p hp).sg, ⟨h.sl, (ha p hp).ar.len, (ha p hp).ar.cap, (ha p hp).ar.top, (ha p hp).ar.addr⟩⟩
/-- A row of points that grows by append, from block B on (or nil). -/
structure GwZ (B : Nat) (w : World) (v : Value) (us : List (SV × SD)) : Prop where
  row : w.ownsRow B 44 8 v us.length (flatZ us)
  typ : TypZ w (zipPS us)
  ar : AllAr w (zipPS us)
theorem GwZ.nil (B : Nat) (w : World) : GwZ B w (.slice none 0 0) [] := ⟨⟨rfl, .inl ⟨rfl, rfl⟩⟩, fun p hp => (by cases hp), fun p hp => (by cases hp)⟩
theorem GwZ.later {B : Nat} {w w' : World} {v : Value} {us : List (SV × SD)} (h : GwZ B w v us) (hb : Below w.heap.size w w') : GwZ B w' v us := by
  refine ⟨⟨h.row.1, ?_⟩, h.typ.later hb, h.ar.later hb⟩
  rcases h.row.2 with h' | ⟨g', cap, cur, hv, h1, hg, r⟩
  · exact .inl h'
  · refine .inr ⟨g', cap, cur, hv, h1, ?_, r⟩
    rw [hb.block g' (Array.getElem?_eq_some_iff.1 hg).1]
    exact hg
theorem GwZ.base {B : Nat} {w : World} {v : Value} {us : List (SV × SD)} (h : GwZ B w v us) : ∀ k, v.ownBlock = some k → B ≤ k := fun k e => by
  rcases h.row.2 with ⟨h', _⟩ | ⟨g', cap, cur, hv, h1, _⟩
  · rw [h'] at e; simp [Value.ownBlock] at e
  · rw [hv] at e
    simp only [Value.ownBlock, Option.some.injEq] at e
    omega
theorem GwZ.arg {B : Nat} {w : World} {v : Value} {us : List (SV × SD)} (h : GwZ B w v us) : ∃ a c, v = .slice a us.length c ∧ (a = none → c = 0) ∧ PArS w a us.length c us := by
  have rd : ∀ p ∈ us, AllAr w [(p.1.lo.num, p.2.lo.num), (p.1.lo.den, p.2.lo.den), (p.1.hi.num, p.2.hi.num), (p.1.hi.den, p.2.hi.den)] := fun p hp x hx => h.ar x (zipPS_mem hp hx)
  rcases h.row.2 with ⟨h', h0⟩ | ⟨g, cap, cur, hv, h1, hg, r1, r2, r3⟩
  · exact ⟨none, 0, by rw [h', h0], fun _ => rfl, ⟨.inl (List.length_eq_zero_iff.1 h0), rd, rfl, by omega, Nat.zero_le _⟩⟩
  · have hr := h.row
    rw [hv] at hr
    refine ⟨_, cap, hv, fun e => (by cases e), ⟨.inr ⟨g, 0, rfl, (Array.getElem?_eq_some_iff.1 hg).1, fun i hi => ?_⟩, rd, rfl, r1, r2⟩⟩
    have hc := flatZ_get us i hi
    refine ⟨?_, ?_, ?_, ?_, ?_, ?_, ?_, ?_⟩ <;> rw [Nat.zero_add, hr.cellAt _ (by omega)]
    · exact hc.1
    · exact hc.2.1
    · exact hc.2.2.1
    · exact hc.2.2.2.1
    · exact hc.2.2.2.2.1
    · exact hc.2.2.2.2.2.1
    · exact hc.2.2.2.2.2.2.1
    · exact hc.2.2.2.2.2.2.2
theorem GwZ.grow {B g cap : Nat} {w w' : World} {v : Value} {us : List (SV × SD)} {u : SV} {d : SD} (h : GwZ B w v us) (ht : TypZ w [(u.lo.num, d.lo.num), (u.lo.den, d.lo.den), (u.hi.num, d.hi.num), (u.hi.den, d.hi.den)]) (ha : AllAr w [(u.lo.num, d.lo.num), (u.lo.den, d.lo.den), (u.hi.num, d.hi.num), (u.hi.den, d.hi.den)])
    (hr : w'.ownsRow B 44 8 (.slice (some ⟨g, 0, none⟩) (us.length + 1) cap) (us.length + 1) (flatZ us ++ [.bool u.lo.num.g, .slice u.lo.num.a u.lo.num.n u.lo.num.c, .bool u.lo.den.g, .slice u.lo.den.a u.lo.den.n u.lo.den.c, .bool u.hi.num.g, .slice u.hi.num.a u.hi.num.n u.hi.num.c, .bool u.hi.den.g, .slice u.hi.den.a u.hi.den.n u.hi.den.c])) (hg : w.grownBy w' v.ownBlock) : GwZ B w' (.slice (some ⟨g, 0, none⟩) (us.length + 1) cap) (us ++ [(u, d)]) := by
  have t1 := (h.typ.append ht).grown hg h.row
  have t2 := t1.ar (h.ar.append ha)
  rw [← zipPS_one (u, d), ← zipPS_append] at t1 t2
  refine ⟨?_, t1, t2⟩
  rw [flatZ_append, List.length_append]
  exact hr
theorem GwZ.bel {B : Nat} {w0 w w' : World} {v : Value} {us : List (SV × SD)} (h : GwZ B w v us) (hb : Below w0.heap.size w0 w) (hB : w0.heap.size ≤ B) (hg : w.grownBy w' v.ownBlock) : Below w0.heap.size w0 w' := hb.grown hg hb.size (fun k e => Nat.le_trans hB (h.base k e))
theorem oneZ {u : SV} : ∀ u' ∈ [Value.bool u.lo.num.g, Value.slice u.lo.num.a u.lo.num.n u.lo.num.c, Value.bool u.lo.den.g, Value.slice u.lo.den.a u.lo.den.n u.lo.den.c, Value.bool u.hi.num.g, Value.slice u.hi.num.a u.hi.num.n u.hi.num.c, Value.bool u.hi.den.g, Value.slice u.hi.den.a u.hi.den.n u.hi.den.c], u'.oneCell' = true := fun u' hu' => by
  simp only [List.mem_cons, List.not_mem_nil, or_false] at hu'
  rcases hu' with rfl | rfl | rfl | rfl | rfl | rfl | rfl | rfl <;> rfl
/-- One point is appended. -/
theorem appZ {ops : Array Oper} {rest : List Oper} {o : Oper} {a : Act} {Q : Exit → Act → World → Prop} {w : World} (hgd : o.guard = none) (s x : Operand)
    (ho : o.op = .call { callee := .builtin .append, args := #[s, x], argTypes := #[24, 24] }) (B : Nat) (v : Value) (us : List (SV × SD)) (hs : a.eval s = v) (hG : GwZ B w v us) (G : Nat) (u : SV) (d : SD) (hx : a.eval x = .slice (some ⟨G, 0, none⟩) 1 1)
    (hblk : w.heap[G]? = some (.cells #[.bool u.lo.num.g, .slice u.lo.num.a u.lo.num.n u.lo.num.c, .bool u.lo.den.g, .slice u.lo.den.a u.lo.den.n u.lo.den.c, .bool u.hi.num.g, .slice u.hi.num.a u.hi.num.n u.hi.num.c, .bool u.hi.den.g, .slice u.hi.den.a u.hi.den.n u.hi.den.c] 44 (0, 0))) (ht : TypZ w [(u.lo.num, d.lo.num), (u.lo.den, d.lo.den), (u.hi.num, d.hi.num), (u.hi.den, d.hi.den)]) (ha : AllAr w [(u.lo.num, d.lo.num), (u.lo.den, d.lo.den), (u.hi.num, d.hi.num), (u.hi.den, d.hi.den)]) (hlen : us.length ≤ 100000) (hB : B ≤ w.heap.size)
    (h : ∀ g cap w', GwZ B w' (.slice (some ⟨g, 0, none⟩) (us.length + 1) cap) (us ++ [(u, d)]) → w.grownBy w' v.ownBlock → wpList Try.prog ops Q rest (a.put o.dst (.slice (some ⟨g, 0, none⟩) (us.length + 1) cap)) w') : wpList Try.prog ops Q (o :: rest) a w := by
  obtain ⟨i0, hi, hz0, hz1, hz2⟩ := info_parts Try.info44
  refine wpList_append_lies w hgd s x 24 ho B 44 i0 (.agg #[.bool false, .slice none 0 0, .bool false, .slice none 0 0, .bool false, .slice none 0 0, .bool false, .slice none 0 0]) 8 128 Try.underlying24 hi hz0 hz1 hz2 rfl (by decide) v us.length (flatZ us) hs hG.row ⟨G, 0, none⟩ 1 1 [.bool u.lo.num.g, .slice u.lo.num.a u.lo.num.n u.lo.num.c, .bool u.lo.den.g, .slice u.lo.den.a u.lo.den.n u.lo.den.c, .bool u.hi.num.g, .slice u.hi.num.a u.hi.num.n u.hi.num.c, .bool u.hi.den.g, .slice u.hi.den.a u.hi.den.n u.hi.den.c] hx rfl (World.news_of_block hblk) oneZ (by omega) (by unfold maxLen; omega) (by omega) hB _ rfl ?_
  intro g cap w' hown hgrow _ _
  exact h g cap w' (hG.grow ht ha hown hgrow) hgrow
theorem stepZ {ops : Array Oper} {o : Oper} {a : Act} {K : Act → World → Prop} {Q : Exit → Act → World → Prop} {E : Prop} {w : World} (hgd : o.guard = none) (s x : Operand)
    (ho : o.op = .call { callee := .builtin .append, args := #[s, x], argTypes := #[24, 24] }) (B : Nat) (v : Value) (us : List (SV × SD)) (hs : a.eval s = v) (hG : GwZ B w v us) (G : Nat) (u : SV) (d : SD) (hx : a.eval x = .slice (some ⟨G, 0, none⟩) 1 1)
    (hblk : w.heap[G]? = some (.cells #[.bool u.lo.num.g, .slice u.lo.num.a u.lo.num.n u.lo.num.c, .bool u.lo.den.g, .slice u.lo.den.a u.lo.den.n u.lo.den.c, .bool u.hi.num.g, .slice u.hi.num.a u.hi.num.n u.hi.num.c, .bool u.hi.den.g, .slice u.hi.den.a u.hi.den.n u.hi.den.c] 44 (0, 0))) (ht : TypZ w [(u.lo.num, d.lo.num), (u.lo.den, d.lo.den), (u.hi.num, d.hi.num), (u.hi.den, d.hi.den)]) (ha : AllAr w [(u.lo.num, d.lo.num), (u.lo.den, d.lo.den), (u.hi.num, d.hi.num), (u.hi.den, d.hi.den)]) (hlen : us.length ≤ 100000) (hB : B ≤ w.heap.size)
    (h : ∀ g cap w', GwZ B w' (.slice (some ⟨g, 0, none⟩) (us.length + 1) cap) (us ++ [(u, d)]) → w.grownBy w' v.ownBlock → K (a.put o.dst (.slice (some ⟨g, 0, none⟩) (us.length + 1) cap)) w') : if Region.wanted o (yielded ops a.tmps) = true then Oper.wp Try.prog o a w K Q else E := by
  obtain ⟨i0, hi, hz0, hz1, hz2⟩ := info_parts Try.info44
  refine step_append_lies w hgd s x 24 ho B 44 i0 (.agg #[.bool false, .slice none 0 0, .bool false, .slice none 0 0, .bool false, .slice none 0 0, .bool false, .slice none 0 0]) 8 128 Try.underlying24 hi hz0 hz1 hz2 rfl (by decide) v us.length (flatZ us) hs hG.row ⟨G, 0, none⟩ 1 1 [.bool u.lo.num.g, .slice u.lo.num.a u.lo.num.n u.lo.num.c, .bool u.lo.den.g, .slice u.lo.den.a u.lo.den.n u.lo.den.c, .bool u.hi.num.g, .slice u.hi.num.a u.hi.num.n u.hi.num.c, .bool u.hi.den.g, .slice u.hi.den.a u.hi.den.n u.hi.den.c] hx rfl (World.news_of_block hblk) oneZ (by omega) (by unfold maxLen; omega) (by omega) hB _ rfl ?_
  intro g cap w' hown hgrow _ _
  exact h g cap w' (hG.grow ht ha hown hgrow) hgrow
/-- What a specification's function answers, with its data. -/
theorem owV_data {lo hi lo' hi' : Nat} {w : World} {v : SV} {p : Rat × Rat} (h : OwV lo hi w v.lo p.1) (k : OwV lo' hi' w v.hi p.2) : ∃ d : SD, TypZ w [(v.lo.num, d.lo.num), (v.lo.den, d.lo.den), (v.hi.num, d.hi.num), (v.hi.den, d.hi.den)] ∧ AllAr w [(v.lo.num, d.lo.num), (v.lo.den, d.lo.den), (v.hi.num, d.hi.num), (v.hi.den, d.hi.den)] ∧ IsDP p d := by
  obtain ⟨⟨x1, a1, b1, c1⟩, ⟨x2, a2, b2, c2⟩⟩ := h
  obtain ⟨⟨x3, a3, b3, c3⟩, ⟨x4, a4, b4, c4⟩⟩ := k
  refine ⟨⟨⟨⟨_, x1⟩, ⟨_, x2⟩⟩, ⟨⟨_, x3⟩, ⟨_, x4⟩⟩⟩, ?_, AllAr.cons b1.head (AllAr.cons b2.head (AllAr.cons b3.head (AllAr.cons b4.head (AllAr.nil _)))), ⟨rfl, c1, rfl, c2, rfl, c3, rfl, c4⟩⟩
  exact ((a1.typZ.append a2.typZ).append a3.typZ).append a4.typZ
theorem TypZ.slc {w w' : World} {l : List (BV × BD)} (ho : TypZ w' l) (ha : AllSl w l) : AllSl w' l := fun p hp => by
  obtain ⟨lo, hi, h⟩ := ho p hp
  exact ⟨(ha p hp).sg, h.sl, (ha p hp).len⟩
theorem AllSl.appendZ {w : World} {l m : List (BV × BD)} (h : AllSl w l) (k : AllSl w m) : AllSl w (l ++ m) := fun p hp => by
  rcases List.mem_append.1 hp with hp | hp
  · exact h p hp
  · exact k p hp
/-- A row of points, to be read, that grows by append, from block B on (or nil). -/
structure GwY (B : Nat) (w : World) (v : Value) (us : List (SV × SD)) : Prop where
  row : w.ownsRow B 44 8 v us.length (flatZ us)
  typ : TypZ w (zipPS us)
  ar : AllSl w (zipPS us)
theorem GwY.nil (B : Nat) (w : World) : GwY B w (.slice none 0 0) [] := ⟨⟨rfl, .inl ⟨rfl, rfl⟩⟩, fun p hp => (by cases hp), fun p hp => (by cases hp)⟩
theorem GwY.later {B : Nat} {w w' : World} {v : Value} {us : List (SV × SD)} (h : GwY B w v us) (hb : Below w.heap.size w w') : GwY B w' v us := by
  refine ⟨⟨h.row.1, ?_⟩, h.typ.later hb, h.ar.later hb⟩
  rcases h.row.2 with h' | ⟨g', cap, cur, hv, h1, hg, r⟩
  · exact .inl h'
  · refine .inr ⟨g', cap, cur, hv, h1, ?_, r⟩
    rw [hb.block g' (Array.getElem?_eq_some_iff.1 hg).1]
    exact hg
theorem GwY.base {B : Nat} {w : World} {v : Value} {us : List (SV × SD)} (h : GwY B w v us) : ∀ k, v.ownBlock = some k → B ≤ k := fun k e => by
  rcases h.row.2 with ⟨h', _⟩ | ⟨g', cap, cur, hv, h1, _⟩
  · rw [h'] at e; simp [Value.ownBlock] at e
  · rw [hv] at e
    simp only [Value.ownBlock, Option.some.injEq] at e
    omega
theorem GwY.sl {B : Nat} {w : World} {v : Value} {us : List (SV × SD)} (h : GwY B w v us) : ∃ a c, v = .slice a us.length c ∧ PSlS w a us := by
  have rd : ∀ p ∈ us, AllSl w [(p.1.lo.num, p.2.lo.num), (p.1.lo.den, p.2.lo.den), (p.1.hi.num, p.2.hi.num), (p.1.hi.den, p.2.hi.den)] := fun p hp x hx => h.ar x (zipPS_mem hp hx)
  rcases h.row.2 with ⟨h', h0⟩ | ⟨g, cap, cur, hv, h1, hg, r1, r2, r3⟩
  · exact ⟨none, 0, by rw [h', h0], ⟨.inl (List.length_eq_zero_iff.1 h0), rd⟩⟩
  · have hr := h.row
    rw [hv] at hr
    refine ⟨_, cap, hv, ⟨.inr ⟨g, 0, rfl, (Array.getElem?_eq_some_iff.1 hg).1, fun i hi => ?_⟩, rd⟩⟩
    have hc := flatZ_get us i hi
    refine ⟨?_, ?_, ?_, ?_, ?_, ?_, ?_, ?_⟩ <;> rw [Nat.zero_add, hr.cellAt _ (by omega)]
    · exact hc.1
    · exact hc.2.1
    · exact hc.2.2.1
    · exact hc.2.2.2.1
    · exact hc.2.2.2.2.1
    · exact hc.2.2.2.2.2.1
    · exact hc.2.2.2.2.2.2.1
    · exact hc.2.2.2.2.2.2.2
theorem GwY.grow {B g cap : Nat} {w w' : World} {v : Value} {us : List (SV × SD)} {u : SV} {d : SD} (h : GwY B w v us) (ht : TypZ w [(u.lo.num, d.lo.num), (u.lo.den, d.lo.den), (u.hi.num, d.hi.num), (u.hi.den, d.hi.den)]) (ha : AllSl w [(u.lo.num, d.lo.num), (u.lo.den, d.lo.den), (u.hi.num, d.hi.num), (u.hi.den, d.hi.den)])
    (hr : w'.ownsRow B 44 8 (.slice (some ⟨g, 0, none⟩) (us.length + 1) cap) (us.length + 1) (flatZ us ++ [.bool u.lo.num.g, .slice u.lo.num.a u.lo.num.n u.lo.num.c, .bool u.lo.den.g, .slice u.lo.den.a u.lo.den.n u.lo.den.c, .bool u.hi.num.g, .slice u.hi.num.a u.hi.num.n u.hi.num.c, .bool u.hi.den.g, .slice u.hi.den.a u.hi.den.n u.hi.den.c])) (hg : w.grownBy w' v.ownBlock) : GwY B w' (.slice (some ⟨g, 0, none⟩) (us.length + 1) cap) (us ++ [(u, d)]) := by
  have t1 := (h.typ.append ht).grown hg h.row
  have t2 := t1.slc (h.ar.appendZ ha)
  rw [← zipPS_one (u, d), ← zipPS_append] at t1 t2
  refine ⟨?_, t1, t2⟩
  rw [flatZ_append, List.length_append]
  exact hr
theorem GwY.bel {B : Nat} {w0 w w' : World} {v : Value} {us : List (SV × SD)} (h : GwY B w v us) (hb : Below w0.heap.size w0 w) (hB : w0.heap.size ≤ B) (hg : w.grownBy w' v.ownBlock) : Below w0.heap.size w0 w' := hb.grown hg hb.size (fun k e => Nat.le_trans hB (h.base k e))
/-- One point is appended. -/
theorem appY {ops : Array Oper} {rest : List Oper} {o : Oper} {a : Act} {Q : Exit → Act → World → Prop} {w : World} (hgd : o.guard = none) (s x : Operand)
    (ho : o.op = .call { callee := .builtin .append, args := #[s, x], argTypes := #[24, 24] }) (B : Nat) (v : Value) (us : List (SV × SD)) (hs : a.eval s = v) (hG : GwY B w v us) (G : Nat) (u : SV) (d : SD) (hx : a.eval x = .slice (some ⟨G, 0, none⟩) 1 1)
    (hblk : w.heap[G]? = some (.cells #[.bool u.lo.num.g, .slice u.lo.num.a u.lo.num.n u.lo.num.c, .bool u.lo.den.g, .slice u.lo.den.a u.lo.den.n u.lo.den.c, .bool u.hi.num.g, .slice u.hi.num.a u.hi.num.n u.hi.num.c, .bool u.hi.den.g, .slice u.hi.den.a u.hi.den.n u.hi.den.c] 44 (0, 0))) (ht : TypZ w [(u.lo.num, d.lo.num), (u.lo.den, d.lo.den), (u.hi.num, d.hi.num), (u.hi.den, d.hi.den)]) (ha : AllSl w [(u.lo.num, d.lo.num), (u.lo.den, d.lo.den), (u.hi.num, d.hi.num), (u.hi.den, d.hi.den)]) (hlen : us.length ≤ 100000) (hB : B ≤ w.heap.size)
    (h : ∀ g cap w', GwY B w' (.slice (some ⟨g, 0, none⟩) (us.length + 1) cap) (us ++ [(u, d)]) → w.grownBy w' v.ownBlock → wpList Try.prog ops Q rest (a.put o.dst (.slice (some ⟨g, 0, none⟩) (us.length + 1) cap)) w') : wpList Try.prog ops Q (o :: rest) a w := by
  obtain ⟨i0, hi, hz0, hz1, hz2⟩ := info_parts Try.info44
  refine wpList_append_lies w hgd s x 24 ho B 44 i0 (.agg #[.bool false, .slice none 0 0, .bool false, .slice none 0 0, .bool false, .slice none 0 0, .bool false, .slice none 0 0]) 8 128 Try.underlying24 hi hz0 hz1 hz2 rfl (by decide) v us.length (flatZ us) hs hG.row ⟨G, 0, none⟩ 1 1 [.bool u.lo.num.g, .slice u.lo.num.a u.lo.num.n u.lo.num.c, .bool u.lo.den.g, .slice u.lo.den.a u.lo.den.n u.lo.den.c, .bool u.hi.num.g, .slice u.hi.num.a u.hi.num.n u.hi.num.c, .bool u.hi.den.g, .slice u.hi.den.a u.hi.den.n u.hi.den.c] hx rfl (World.news_of_block hblk) oneZ (by omega) (by unfold maxLen; omega) (by omega) hB _ rfl ?_
  intro g cap w' hown hgrow _ _
  exact h g cap w' (hG.grow ht ha hown hgrow) hgrow
end Go.Proofs.Ytokajpeopijneaa
namespace Go.Proofs.Ytokajpeopijneaa
open Go.RowKit
set_option linter.unusedVariables false
set_option maxRecDepth 100000
set_option linter.unusedSimpArgs false

theorem svZ {g : Bool} {xs : List Int} (h : goodB g xs = true) : g = decide (sv g xs < 0) ∧ Nm xs (sv g xs).natAbs := by
  have hn := goodB_neg h
  obtain ⟨h1, h2, h3, h4⟩ := good_parts h
  have hv := val_nonneg h1
  refine ⟨?_, ⟨h1, h2, ?_⟩⟩
  · cases g
    · exact (decide_eq_false (fun e => by cases hn.1.1 e)).symm
    · exact (decide_eq_true (hn.1.2 rfl)).symm
  · unfold sv
    split <;> omega
theorem low_gQ {d : QD} (hg : gQ d = true) : Low (nQ d) (dQ d) := by
  unfold gQ at hg
  obtain ⟨g1, g2⟩ := goodR_parts hg
  unfold goodR at hg
  simp only [Bool.and_eq_true, Bool.not_eq_true', decide_eq_true_eq] at hg
  obtain ⟨_, h1, h2, h3⟩ := hg
  obtain ⟨o1, t1, _, _⟩ := good_parts g1
  obtain ⟨o2, t2, _, _⟩ := good_parts g2
  have v1 := val_nonneg o1
  have v2 := val_nonneg o2
  have hz : val d.den.xs ≠ 0 := fun e => h2 (by rw [(val_zero_iff o2 t2).1 e]; rfl)
  have hd : dQ d = val d.den.xs := by unfold dQ sv; rw [h1]; simp
  have hn : (nQ d).natAbs = (val d.num.xs).toNat := by unfold nQ sv; split <;> omega
  exact ⟨by omega, by rw [hn, hd, show (val d.den.xs).natAbs = (val d.den.xs).toNat by omega]; exact h3⟩
theorem vQ_gQ {d : QD} (hg : gQ d = true) : nQ d = nR (vQ d) ∧ dQ d = dR (vQ d) := lowR_is (low_gQ hg)
theorem dp_good {d : SD} (h : gPt2 d = true) : IsDP (vP d) d := by
  unfold gPt2 gF at h
  simp only [Bool.and_eq_true] at h
  have e1 := vQ_gQ h.1.2
  have e2 := vQ_gQ h.2.2
  have p1 := goodR_parts (by have := h.1.2; unfold gQ at this; exact this)
  have p2 := goodR_parts (by have := h.2.2; unfold gQ at this; exact this)
  have a := svZ p1.1
  have b := svZ p1.2
  have c := svZ p2.1
  have e := svZ p2.2
  have f1 : nR (vP d).1 = sv d.lo.num.g d.lo.num.xs := e1.1.symm
  have f2 : dR (vP d).1 = sv d.lo.den.g d.lo.den.xs := e1.2.symm
  have f3 : nR (vP d).2 = sv d.hi.num.g d.hi.num.xs := e2.1.symm
  have f4 : dR (vP d).2 = sv d.hi.den.g d.hi.den.xs := e2.2.symm
  exact ⟨by rw [f1]; exact a.1, by rw [f1]; exact a.2, by rw [f2]; exact b.1, by rw [f2]; exact b.2, by rw [f3]; exact c.1, by rw [f3]; exact c.2, by rw [f4]; exact e.1, by rw [f4]; exact e.2⟩
theorem gCv_mem {ds : List SD} (h : gCv ds = true) : (1 ≤ ds.length ∧ ds.length ≤ 5) ∧ ∀ d ∈ ds, gPt2 d = true := by
  unfold gCv many at h
  simp only [Bool.and_eq_true, decide_eq_true_eq] at h
  exact ⟨h.1, fun d hd => List.all_eq_true.1 h.2 d hd⟩
/-- The points that a list of data tells. -/
def vC (l : List (SV × SD)) : List (Rat × Rat) := l.map fun y => vP y.2
theorem vC_get {l : List (SV × SD)} {i : Nat} {y : SV × SD} (h : l[i]? = some y) : (vC l)[i]? = some (vP y.2) := by unfold vC; rw [List.getElem?_map, h]; rfl
theorem vC_len (l : List (SV × SD)) : (vC l).length = l.length := by unfold vC; simp
theorem isC_good {l : List (SV × SD)} (h : gCv (l.map Prod.snd) = true) : IsC (vC l) (l.map Prod.snd) := by
  refine ⟨by rw [vC_len]; simp, fun i p d hp hd => ?_⟩
  rw [List.getElem?_map] at hd
  unfold vC at hp
  rw [List.getElem?_map] at hp
  cases hy : l[i]? with
  | none => rw [hy] at hp; cases hp
  | some y =>
    rw [hy] at hp hd
    obtain rfl := Option.some.inj hp
    obtain rfl := Option.some.inj hd
    exact dp_good ((gCv_mem h).2 _ (List.mem_map.2 ⟨y, List.mem_of_getElem? hy, rfl⟩))
/-- Points of few limbs. -/
def BdC (ps : List (Rat × Rat)) (L : Nat) : Prop := ∀ p ∈ ps, BdP p L
theorem bdQ_good {d : QD} (hg : gQ d = true) : BdR (vQ d) 40 := by
  have e := vQ_gQ hg
  have p := goodR_parts (by unfold gQ at hg; exact hg)
  refine ⟨?_, ?_⟩
  · rw [← e.1]; exact (svZ p.1).2.bd (good_parts p.1).2.2.1
  · rw [← e.2]; exact (svZ p.2).2.bd (good_parts p.2).2.2.1
theorem bdC_good {l : List (SV × SD)} (h : gCv (l.map Prod.snd) = true) : BdC (vC l) 40 := fun p hp => by
  obtain ⟨y, hy, rfl⟩ := List.mem_map.1 hp
  have h1 := (gCv_mem h).2 y.2 (List.mem_map.2 ⟨y, hy, rfl⟩)
  unfold gPt2 gF at h1
  simp only [Bool.and_eq_true] at h1
  exact ⟨bdQ_good h1.1.2, bdQ_good h1.2.2⟩
/-- A slice that reads as these points. -/
structure RdC (w : World) (a : Option Addr) (n c : Nat) (l : List (SV × SD)) (ps : List (Rat × Rat)) : Prop where
  ar : PArS w a n c l
  is : IsC ps (l.map Prod.snd)
theorem RdC.later {w w' : World} {a : Option Addr} {n c : Nat} {l : List (SV × SD)} {ps : List (Rat × Rat)} (h : RdC w a n c l ps) (hb : Below w.heap.size w w') : RdC w' a n c l ps := ⟨h.ar.later hb, h.is⟩
theorem RdC.len {w : World} {a : Option Addr} {n c : Nat} {l : List (SV × SD)} {ps : List (Rat × Rat)} (h : RdC w a n c l ps) : ps.length = n := by rw [← h.is.len, List.length_map]; exact h.ar.len
theorem RdC.pt {w : World} {a : Option Addr} {n c : Nat} {l : List (SV × SD)} {ps : List (Rat × Rat)} (h : RdC w a n c l ps) {i : Nat} {y : SV × SD} (hy : l[i]? = some y) : ∃ p, ps[i]? = some p ∧ p ∈ ps ∧ IsDP p y.2 ∧ IsPt w y.1 p := by
  have hi : i < l.length := (List.getElem?_eq_some_iff.1 hy).1
  have hp : i < ps.length := by rw [← h.is.len, List.length_map]; exact hi
  have hd : (l.map Prod.snd)[i]? = some y.2 := by rw [List.getElem?_map, hy]; rfl
  have h1 := h.is.at_ i ps[i] y.2 (List.getElem?_eq_getElem hp) hd
  exact ⟨ps[i], List.getElem?_eq_getElem hp, List.getElem_mem _, h1, h1.is (h.ar.rd y (List.mem_of_getElem? hy))⟩
theorem rdC_good {w : World} {a : Option Addr} {n c : Nat} {l : List (SV × SD)} (h : PArS w a n c l) (hg : gCv (l.map Prod.snd) = true) : RdC w a n c l (vC l) := ⟨h, isC_good hg⟩
/-- A call tells these points in memory of its own. -/
def OutCz (w : World) (ps : List (Rat × Rat)) (e : Ending) (w' : World) : Prop := ∃ (a : Option Addr) (n c : Nat) (l : List (SV × SD)), e = .returned (.slice a n c) ∧ Below w.heap.size w w' ∧ PRoZ w.heap.size w'.heap.size w' a n c l ∧ RdC w' a n c l ps
theorem lenPS_le {l : List (SV × SD)} {B : Nat} (h : ∀ p ∈ l, p.1.lo.num.n ≤ B ∧ p.1.lo.den.n ≤ B ∧ p.1.hi.num.n ≤ B ∧ p.1.hi.den.n ≤ B) : lenPS l ≤ 4 * B * l.length := by
  induction l with
  | nil => simp [lenPS]
  | cons p l ih =>
    have h1 := h p List.mem_cons_self
    have h2 := ih (fun q hq => h q (List.mem_cons_of_mem _ hq))
    show p.1.lo.num.n + p.1.lo.den.n + p.1.hi.num.n + p.1.hi.den.n + lenPS l ≤ 4 * B * (l.length + 1)
    rw [Nat.mul_add, Nat.mul_one]
    omega
theorem RdC.lens {w : World} {a : Option Addr} {n c : Nat} {l : List (SV × SD)} {ps : List (Rat × Rat)} {L : Nat} (h : RdC w a n c l ps) (hb : BdC ps L) : ∀ p ∈ l, p.1.lo.num.n ≤ L ∧ p.1.lo.den.n ≤ L ∧ p.1.hi.num.n ≤ L ∧ p.1.hi.den.n ≤ L := fun y hy => by
  obtain ⟨i, hi, rfl⟩ := List.mem_iff_getElem.1 hy
  obtain ⟨p, h1, h2, h3, h4⟩ := h.pt (List.getElem?_eq_getElem hi)
  have k := h3.lens (hb p h2)
  have a1 := h.ar.rd _ hy
  have e1 := a1.head.ar.len
  have e2 := a1.tail.head.ar.len
  have e3 := a1.tail.tail.head.ar.len
  have e4 := a1.tail.tail.tail.head.ar.len
  omega
theorem PRoZ.none (B E : Nat) (w : World) : PRoZ B E w none 0 0 [] := ⟨rfl, by simp [lenPS], fun p hp => (by cases hp), .inl rfl⟩
theorem GrZ.finL {B n L : Nat} {w0 w : World} {us : List (SV × SD)} {ps : List (Rat × Rat)} (h : GrZ B n w us) (hc : IsC ps (us.map Prod.snd)) (hb : BdC ps L) (hL : L ≤ 20000) (hn : n ≤ 2000) (hm : 4 * L * n ≤ 4000000) (hB : w0.heap.size ≤ B) : PRoZ w0.heap.size w.heap.size w (some ⟨B, 0, none⟩) n n us ∧ RdC w (some ⟨B, 0, none⟩) n n us ps := by
  have ow : POwS (B + 1) w.heap.size w B n n us := ⟨h.row, h.own, h.ar, h.len⟩
  have rd : RdC w (some ⟨B, 0, none⟩) n n us ps := ⟨ow.arg, hc⟩
  have ls := rd.lens hb
  have sz := lenPS_le ls
  rw [h.len] at sz
  exact ⟨(ow.ro (Nat.lt_succ_self _) (Nat.succ_le_of_lt h.lt) (by omega) (fun p hp => by have := ls p hp; omega)).wide hB (Nat.le_refl _), rd⟩
theorem GrZ.fin {B n L : Nat} {w0 w : World} {us : List (SV × SD)} {ps : List (Rat × Rat)} (h : GrZ B n w us) (hc : IsC ps (us.map Prod.snd)) (hb : BdC ps L) (hL : L ≤ 20000) (hn : n ≤ 10) (hB : w0.heap.size ≤ B) : PRoZ w0.heap.size w.heap.size w (some ⟨B, 0, none⟩) n n us ∧ RdC w (some ⟨B, 0, none⟩) n n us ps := by
  have h2 : 4 * L * n ≤ 4 * 20000 * 10 := Nat.mul_le_mul (by omega) hn
  exact h.finL hc hb hL (by omega) (by omega) hB
/-- At its places a row has these points. -/
def AtZ (us : List (SV × SD)) (k : Nat) (p : Rat × Rat) : Prop := ∃ y, us[k]? = some y ∧ IsDP p y.2
theorem AtZ.keep {us : List (SV × SD)} {k j : Nat} {p : Rat × Rat} {y : SV × SD} (h : AtZ us k p) (hj : j ≠ k) : AtZ (us.set j y) k p := by
  obtain ⟨z, h1, h2⟩ := h
  exact ⟨z, by rw [List.getElem?_set_ne hj]; exact h1, h2⟩
theorem AtZ.here {us : List (SV × SD)} {k : Nat} {p : Rat × Rat} {u : SV} {d : SD} (hk : k < us.length) (h : IsDP p d) : AtZ (us.set k (u, d)) k p := ⟨(u, d), by rw [List.getElem?_set_self hk], h⟩
theorem atZ_isC {us : List (SV × SD)} {ps : List (Rat × Rat)} (hl : us.length = ps.length) (h : ∀ k p, ps[k]? = some p → AtZ us k p) : IsC ps (us.map Prod.snd) := by
  refine ⟨by rw [List.length_map]; exact hl, fun i p d hp hd => ?_⟩
  obtain ⟨y, h1, h2⟩ := h i p hp
  rw [List.getElem?_map, h1] at hd
  obtain rfl := Option.some.inj hd
  exact h2
end Go.Proofs.Ytokajpeopijneaa
namespace Go.Proofs.Ytokajpeopijneaa
open Go.RowKit
set_option linter.unusedVariables false
set_option maxRecDepth 100000
set_option linter.unusedSimpArgs false


/-- All of at most 40 limbs. -/
def f40 (d : SD) : Bool := (decide (d.lo.num.xs.length ≤ 40) && decide (d.lo.den.xs.length ≤ 40)) && (decide (d.hi.num.xs.length ≤ 40) && decide (d.hi.den.xs.length ≤ 40))
theorem ans_f40 {p : Rat × Rat} {d e : SD} {ok : Bool} (h : AnsS true (nR p.1) (dR p.1) (nR p.2) (dR p.2) e ok) (k : IsDP p d) : ok = f40 d ∧ (ok = true → e = d) := by
  rcases h with ⟨_, xs, us, ys, vs, h1, h2, h3, h4, h5⟩ | ⟨p, _⟩
  · obtain rfl := h1.same k.n1
    obtain rfl := h2.same k.n2
    obtain rfl := h3.same k.n3
    obtain rfl := h4.same k.n4
    unfold f40
    rcases h5 with ⟨a, b, rfl, rfl⟩ | ⟨a, rfl, rfl⟩
    · refine ⟨by rw [decide_eq_true a.1, decide_eq_true a.2, decide_eq_true b.1, decide_eq_true b.2]; rfl, fun _ => ?_⟩
      exact (IsDP.same (p := p) ⟨rfl, h1, rfl, h2, rfl, h3, rfl, h4⟩ k)
    · refine ⟨?_, fun e => by cases e⟩
      cases hf : ((decide (d.lo.num.xs.length ≤ 40) && decide (d.lo.den.xs.length ≤ 40)) && (decide (d.hi.num.xs.length ≤ 40) && decide (d.hi.den.xs.length ≤ 40)))
      · rfl
      · simp only [Bool.and_eq_true, decide_eq_true_eq] at hf
        exact absurd hf a
  · cases p

/-- A slice as an argument, its limbs in blocks of integers. -/
structure PArT (w : World) (a : Option Addr) (n c : Nat) (l : List (SV × SD)) : Prop where
  ar : PArS w a n c l
  typ : TypZ w (zipPS l)
theorem POwS.argT {lo hi : Nat} {w : World} {G n c : Nat} {l : List (SV × SD)} (h : POwS lo hi w G n c l) : PArT w (some ⟨G, 0, none⟩) n c l := ⟨h.arg, h.own.typZ⟩
theorem vC_eq {k l : List (SV × SD)} (e : k.map Prod.snd = l.map Prod.snd) : vC k = vC l := by
  have := congrArg (List.map vP) e
  simp only [List.map_map] at this
  exact this

end Go.Proofs.Ytokajpeopijneaa

/- Boxes of the kind Q: what the laws hold of their own variables. No condition beyond those typed. Written by mkvar.py. -/
import Derived.Test.YtdgonpbponnnaaaGreatDoorFlatQ
namespace Go.Proofs.YtdgonpbponnnaaaGreatDoor
open Go.RowKit
set_option linter.unusedVariables false
set_option maxRecDepth 100000
set_option linter.unusedSimpArgs false

/-- A variable of the law's own: its box at block G, what it leads to at blocks from lo to below hi. -/
structure VarQ (wx : World) (G lo hi : Nat) (v : QV) (d : QD) : Prop where
  c0 : wx.cell? ⟨G, 0, none⟩ = some (.bool v.num.g)
  c1 : wx.cell? ⟨G, 1, none⟩ = some (.slice v.num.a v.num.n v.num.c)
  c2 : wx.cell? ⟨G, 2, none⟩ = some (.bool v.den.g)
  c3 : wx.cell? ⟨G, 3, none⟩ = some (.slice v.den.a v.den.n v.den.c)
  own : AllOwn lo hi wx [(v.num, d.num), (v.den, d.den)]
theorem VarQ.later {wx wy : World} {G lo hi : Nat} {v : QV} {d : QD} (h : VarQ wx G lo hi v d) (hb : Below wx.heap.size wx wy) : VarQ wy G lo hi v d :=
  ⟨cell_later hb h.c0, cell_later hb h.c1, cell_later hb h.c2, cell_later hb h.c3, h.own.later hb⟩
theorem VarQ.but {wx wy : World} {G lo hi lo' hi' : Nat} {v : QV} {d : QD} (h : VarQ wx G lo hi v d) (hb : But lo' hi' wx wy) (hG : G < lo' ∨ hi' ≤ G) (hd : hi ≤ lo' ∨ hi' ≤ lo) : VarQ wy G lo hi v d :=
  ⟨hb.cell h.c0 hG, hb.cell h.c1 hG, hb.cell h.c2 hG, hb.cell h.c3 hG, h.own.but hb hd⟩
theorem VarQ.mark {wx wy : World} {G lo hi : Nat} {v : QV} {d d' : QD} (h : VarQ wx G lo hi v d) (hb : But lo hi wx wy) (hG : G < lo ∨ hi ≤ G) (ho : AllOwn lo hi wy [(v.num, d'.num), (v.den, d'.den)]) : VarQ wy G lo hi v d' :=
  ⟨hb.cell h.c0 hG, hb.cell h.c1 hG, hb.cell h.c2 hG, hb.cell h.c3 hG, ho⟩
theorem VarQ.low {wx : World} {G lo hi lo' : Nat} {v : QV} {d : QD} (h : VarQ wx G lo hi v d) (hl : lo' ≤ lo) : VarQ wx G lo' hi v d := ⟨h.c0, h.c1, h.c2, h.c3, h.own.wide hl (Nat.le_refl _)⟩
theorem VarQ.start {wx : World} {lo : Nat} {v : QV} {d : QD} (t : TypeId) (h : AllOwn lo wx.heap.size wx [(v.num, d.num), (v.den, d.den)]) : VarQ (wx.alloc (.cells #[.bool v.num.g, .slice v.num.a v.num.n v.num.c, .bool v.den.g, .slice v.den.a v.den.n v.den.c] t)) wx.heap.size lo wx.heap.size v d :=
  ⟨by simp [go_sem], by simp [go_sem], by simp [go_sem], by simp [go_sem], h.later ((Below.refl _ _).alloc (Nat.le_refl _) _)⟩
theorem VarQ.gt {wx : World} {G lo hi : Nat} {v : QV} {d : QD} (h : VarQ wx G lo hi v d) : G < wx.heap.size := World.block_lt_of_cell? _ _ h.c0
/-- An answer lies in its box. -/
structure MetQ (wk wx : World) (G : Nat) (v : QV) (d : QD) : Prop where
  lo : wk.heap.size ≤ G
  hi : G < wx.heap.size
  var : VarQ wx G wk.heap.size wx.heap.size v d
  bel : Below wk.heap.size wk wx
theorem metQ_alloc {wk w5 : World} {v : QV} {d : QD} {B : Nat} (t : TypeId) (hk : Below wk.heap.size wk w5) (ho : AllOwn B w5.heap.size w5 [(v.num, d.num), (v.den, d.den)]) (hB : wk.heap.size ≤ B) :
    MetQ wk (w5.alloc (.cells #[.bool v.num.g, .slice v.num.a v.num.n v.num.c, .bool v.den.g, .slice v.den.a v.den.n v.den.c] t)) w5.heap.size v d := by
  have hv := VarQ.start t (ho.wide hB (Nat.le_refl _))
  exact ⟨hk.size, by simp, ⟨hv.c0, hv.c1, hv.c2, hv.c3, hv.own.wide (Nat.le_refl _) (by simp)⟩, hk.alloc hk.size _⟩
theorem metQ_but {w5 : World} {v : QV} {G : Nat} : But G (G + 1) w5 ((((w5.setCell ⟨G, 0, none⟩ (.bool v.num.g)).setCell ⟨G, 1, none⟩ (.slice v.num.a v.num.n v.num.c)).setCell ⟨G, 2, none⟩ (.bool v.den.g)).setCell ⟨G, 3, none⟩ (.slice v.den.a v.den.n v.den.c)) := (((((But.refl _ _ _).set (p := ⟨G, 0, none⟩) (Nat.le_refl _) (Nat.lt_succ_self _) _).set (p := ⟨G, 1, none⟩) (Nat.le_refl _) (Nat.lt_succ_self _) _).set (p := ⟨G, 2, none⟩) (Nat.le_refl _) (Nat.lt_succ_self _) _).set (p := ⟨G, 3, none⟩) (Nat.le_refl _) (Nat.lt_succ_self _) _)
theorem metQ_set {wk w5 : World} {v : QV} {d : QD} {B G : Nat} {z0 : Value} {z1 : Value} {z2 : Value} {z3 : Value} (hk : Below wk.heap.size wk w5) (ho : AllOwn B w5.heap.size w5 [(v.num, d.num), (v.den, d.den)]) (hG : wk.heap.size ≤ G) (hGB : G < B) (e0 : w5.cell? ⟨G, 0, none⟩ = some z0) (e1 : w5.cell? ⟨G, 1, none⟩ = some z1) (e2 : w5.cell? ⟨G, 2, none⟩ = some z2) (e3 : w5.cell? ⟨G, 3, none⟩ = some z3) :
    MetQ wk ((((w5.setCell ⟨G, 0, none⟩ (.bool v.num.g)).setCell ⟨G, 1, none⟩ (.slice v.num.a v.num.n v.num.c)).setCell ⟨G, 2, none⟩ (.bool v.den.g)).setCell ⟨G, 3, none⟩ (.slice v.den.a v.den.n v.den.c)) G v d := by
  have hb := metQ_but (w5 := w5) (v := v) (G := G)
  have hlt : G < w5.heap.size := World.block_lt_of_cell? _ _ e0
  refine ⟨hG, by have := hb.size; omega, ⟨?_, ?_, ?_, ?_, ?_⟩, hb.below hk hG hk.size⟩
  · simp [go_sem, e0, e1, e2, e3]
  · simp [go_sem, e0, e1, e2, e3]
  · simp [go_sem, e0, e1, e2, e3]
  · simp [go_sem, e0, e1, e2, e3]
  · exact (ho.but hb (.inr (by omega))).wide (by omega) hb.size
end Go.Proofs.YtdgonpbponnnaaaGreatDoor

/- Boxes of the kind S: what the laws hold of their own variables. No condition beyond those typed. Written by mkvar.py. -/
import Derived.Test.YtdgonpbponnnaaaGreatDoorFlatS
namespace Go.Proofs.YtdgonpbponnnaaaGreatDoor
open Go.RowKit
set_option linter.unusedVariables false
set_option maxRecDepth 100000
set_option linter.unusedSimpArgs false

/-- A variable of the law's own: its box at block G, what it leads to at blocks from lo to below hi. -/
structure VarS (wx : World) (G lo hi : Nat) (v : SV) (d : SD) : Prop where
  c0 : wx.cell? ⟨G, 0, none⟩ = some (.bool v.lo.num.g)
  c1 : wx.cell? ⟨G, 1, none⟩ = some (.slice v.lo.num.a v.lo.num.n v.lo.num.c)
  c2 : wx.cell? ⟨G, 2, none⟩ = some (.bool v.lo.den.g)
  c3 : wx.cell? ⟨G, 3, none⟩ = some (.slice v.lo.den.a v.lo.den.n v.lo.den.c)
  c4 : wx.cell? ⟨G, 4, none⟩ = some (.bool v.hi.num.g)
  c5 : wx.cell? ⟨G, 5, none⟩ = some (.slice v.hi.num.a v.hi.num.n v.hi.num.c)
  c6 : wx.cell? ⟨G, 6, none⟩ = some (.bool v.hi.den.g)
  c7 : wx.cell? ⟨G, 7, none⟩ = some (.slice v.hi.den.a v.hi.den.n v.hi.den.c)
  own : AllOwn lo hi wx [(v.lo.num, d.lo.num), (v.lo.den, d.lo.den), (v.hi.num, d.hi.num), (v.hi.den, d.hi.den)]
theorem VarS.later {wx wy : World} {G lo hi : Nat} {v : SV} {d : SD} (h : VarS wx G lo hi v d) (hb : Below wx.heap.size wx wy) : VarS wy G lo hi v d :=
  ⟨cell_later hb h.c0, cell_later hb h.c1, cell_later hb h.c2, cell_later hb h.c3, cell_later hb h.c4, cell_later hb h.c5, cell_later hb h.c6, cell_later hb h.c7, h.own.later hb⟩
theorem VarS.but {wx wy : World} {G lo hi lo' hi' : Nat} {v : SV} {d : SD} (h : VarS wx G lo hi v d) (hb : But lo' hi' wx wy) (hG : G < lo' ∨ hi' ≤ G) (hd : hi ≤ lo' ∨ hi' ≤ lo) : VarS wy G lo hi v d :=
  ⟨hb.cell h.c0 hG, hb.cell h.c1 hG, hb.cell h.c2 hG, hb.cell h.c3 hG, hb.cell h.c4 hG, hb.cell h.c5 hG, hb.cell h.c6 hG, hb.cell h.c7 hG, h.own.but hb hd⟩
theorem VarS.mark {wx wy : World} {G lo hi : Nat} {v : SV} {d d' : SD} (h : VarS wx G lo hi v d) (hb : But lo hi wx wy) (hG : G < lo ∨ hi ≤ G) (ho : AllOwn lo hi wy [(v.lo.num, d'.lo.num), (v.lo.den, d'.lo.den), (v.hi.num, d'.hi.num), (v.hi.den, d'.hi.den)]) : VarS wy G lo hi v d' :=
  ⟨hb.cell h.c0 hG, hb.cell h.c1 hG, hb.cell h.c2 hG, hb.cell h.c3 hG, hb.cell h.c4 hG, hb.cell h.c5 hG, hb.cell h.c6 hG, hb.cell h.c7 hG, ho⟩
theorem VarS.low {wx : World} {G lo hi lo' : Nat} {v : SV} {d : SD} (h : VarS wx G lo hi v d) (hl : lo' ≤ lo) : VarS wx G lo' hi v d := ⟨h.c0, h.c1, h.c2, h.c3, h.c4, h.c5, h.c6, h.c7, h.own.wide hl (Nat.le_refl _)⟩
theorem VarS.start {wx : World} {lo : Nat} {v : SV} {d : SD} (t : TypeId) (h : AllOwn lo wx.heap.size wx [(v.lo.num, d.lo.num), (v.lo.den, d.lo.den), (v.hi.num, d.hi.num), (v.hi.den, d.hi.den)]) : VarS (wx.alloc (.cells #[.bool v.lo.num.g, .slice v.lo.num.a v.lo.num.n v.lo.num.c, .bool v.lo.den.g, .slice v.lo.den.a v.lo.den.n v.lo.den.c, .bool v.hi.num.g, .slice v.hi.num.a v.hi.num.n v.hi.num.c, .bool v.hi.den.g, .slice v.hi.den.a v.hi.den.n v.hi.den.c] t)) wx.heap.size lo wx.heap.size v d :=
  ⟨by simp [go_sem], by simp [go_sem], by simp [go_sem], by simp [go_sem], by simp [go_sem], by simp [go_sem], by simp [go_sem], by simp [go_sem], h.later ((Below.refl _ _).alloc (Nat.le_refl _) _)⟩
theorem VarS.gt {wx : World} {G lo hi : Nat} {v : SV} {d : SD} (h : VarS wx G lo hi v d) : G < wx.heap.size := World.block_lt_of_cell? _ _ h.c0
/-- An answer lies in its box. -/
structure MetS (wk wx : World) (G : Nat) (v : SV) (d : SD) : Prop where
  lo : wk.heap.size ≤ G
  hi : G < wx.heap.size
  var : VarS wx G wk.heap.size wx.heap.size v d
  bel : Below wk.heap.size wk wx
theorem metS_alloc {wk w5 : World} {v : SV} {d : SD} {B : Nat} (t : TypeId) (hk : Below wk.heap.size wk w5) (ho : AllOwn B w5.heap.size w5 [(v.lo.num, d.lo.num), (v.lo.den, d.lo.den), (v.hi.num, d.hi.num), (v.hi.den, d.hi.den)]) (hB : wk.heap.size ≤ B) :
    MetS wk (w5.alloc (.cells #[.bool v.lo.num.g, .slice v.lo.num.a v.lo.num.n v.lo.num.c, .bool v.lo.den.g, .slice v.lo.den.a v.lo.den.n v.lo.den.c, .bool v.hi.num.g, .slice v.hi.num.a v.hi.num.n v.hi.num.c, .bool v.hi.den.g, .slice v.hi.den.a v.hi.den.n v.hi.den.c] t)) w5.heap.size v d := by
  have hv := VarS.start t (ho.wide hB (Nat.le_refl _))
  exact ⟨hk.size, by simp, ⟨hv.c0, hv.c1, hv.c2, hv.c3, hv.c4, hv.c5, hv.c6, hv.c7, hv.own.wide (Nat.le_refl _) (by simp)⟩, hk.alloc hk.size _⟩
theorem metS_but {w5 : World} {v : SV} {G : Nat} : But G (G + 1) w5 ((((((((w5.setCell ⟨G, 0, none⟩ (.bool v.lo.num.g)).setCell ⟨G, 1, none⟩ (.slice v.lo.num.a v.lo.num.n v.lo.num.c)).setCell ⟨G, 2, none⟩ (.bool v.lo.den.g)).setCell ⟨G, 3, none⟩ (.slice v.lo.den.a v.lo.den.n v.lo.den.c)).setCell ⟨G, 4, none⟩ (.bool v.hi.num.g)).setCell ⟨G, 5, none⟩ (.slice v.hi.num.a v.hi.num.n v.hi.num.c)).setCell ⟨G, 6, none⟩ (.bool v.hi.den.g)).setCell ⟨G, 7, none⟩ (.slice v.hi.den.a v.hi.den.n v.hi.den.c)) := (((((((((But.refl _ _ _).set (p := ⟨G, 0, none⟩) (Nat.le_refl _) (Nat.lt_succ_self _) _).set (p := ⟨G, 1, none⟩) (Nat.le_refl _) (Nat.lt_succ_self _) _).set (p := ⟨G, 2, none⟩) (Nat.le_refl _) (Nat.lt_succ_self _) _).set (p := ⟨G, 3, none⟩) (Nat.le_refl _) (Nat.lt_succ_self _) _).set (p := ⟨G, 4, none⟩) (Nat.le_refl _) (Nat.lt_succ_self _) _).set (p := ⟨G, 5, none⟩) (Nat.le_refl _) (Nat.lt_succ_self _) _).set (p := ⟨G, 6, none⟩) (Nat.le_refl _) (Nat.lt_succ_self _) _).set (p := ⟨G, 7, none⟩) (Nat.le_refl _) (Nat.lt_succ_self _) _)
theorem metS_set {wk w5 : World} {v : SV} {d : SD} {B G : Nat} {z0 : Value} {z1 : Value} {z2 : Value} {z3 : Value} {z4 : Value} {z5 : Value} {z6 : Value} {z7 : Value} (hk : Below wk.heap.size wk w5) (ho : AllOwn B w5.heap.size w5 [(v.lo.num, d.lo.num), (v.lo.den, d.lo.den), (v.hi.num, d.hi.num), (v.hi.den, d.hi.den)]) (hG : wk.heap.size ≤ G) (hGB : G < B) (e0 : w5.cell? ⟨G, 0, none⟩ = some z0) (e1 : w5.cell? ⟨G, 1, none⟩ = some z1) (e2 : w5.cell? ⟨G, 2, none⟩ = some z2) (e3 : w5.cell? ⟨G, 3, none⟩ = some z3) (e4 : w5.cell? ⟨G, 4, none⟩ = some z4) (e5 : w5.cell? ⟨G, 5, none⟩ = some z5) (e6 : w5.cell? ⟨G, 6, none⟩ = some z6) (e7 : w5.cell? ⟨G, 7, none⟩ = some z7) :
    MetS wk ((((((((w5.setCell ⟨G, 0, none⟩ (.bool v.lo.num.g)).setCell ⟨G, 1, none⟩ (.slice v.lo.num.a v.lo.num.n v.lo.num.c)).setCell ⟨G, 2, none⟩ (.bool v.lo.den.g)).setCell ⟨G, 3, none⟩ (.slice v.lo.den.a v.lo.den.n v.lo.den.c)).setCell ⟨G, 4, none⟩ (.bool v.hi.num.g)).setCell ⟨G, 5, none⟩ (.slice v.hi.num.a v.hi.num.n v.hi.num.c)).setCell ⟨G, 6, none⟩ (.bool v.hi.den.g)).setCell ⟨G, 7, none⟩ (.slice v.hi.den.a v.hi.den.n v.hi.den.c)) G v d := by
  have hb := metS_but (w5 := w5) (v := v) (G := G)
  have hlt : G < w5.heap.size := World.block_lt_of_cell? _ _ e0
  refine ⟨hG, by have := hb.size; omega, ⟨?_, ?_, ?_, ?_, ?_, ?_, ?_, ?_, ?_⟩, hb.below hk hG hk.size⟩
  · simp [go_sem, e0, e1, e2, e3, e4, e5, e6, e7]
  · simp [go_sem, e0, e1, e2, e3, e4, e5, e6, e7]
  · simp [go_sem, e0, e1, e2, e3, e4, e5, e6, e7]
  · simp [go_sem, e0, e1, e2, e3, e4, e5, e6, e7]
  · simp [go_sem, e0, e1, e2, e3, e4, e5, e6, e7]
  · simp [go_sem, e0, e1, e2, e3, e4, e5, e6, e7]
  · simp [go_sem, e0, e1, e2, e3, e4, e5, e6, e7]
  · simp [go_sem, e0, e1, e2, e3, e4, e5, e6, e7]
  · exact (ho.but hb (.inr (by omega))).wide (by omega) hb.size
end Go.Proofs.YtdgonpbponnnaaaGreatDoor

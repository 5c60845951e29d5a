/- Boxes of the kind B: what the laws hold of their own variables. No condition beyond those typed. Written by mkvar.py. -/
import Derived.Test.YtdgonpbponnnaaaGreatDoorFlat
namespace Go.Proofs.YtdgonpbponnnaaaGreatDoor
open Go.RowKit
set_option linter.unusedVariables false
set_option maxRecDepth 100000
set_option linter.unusedSimpArgs false

/-- A variable of the law's own: its box at block G, what it leads to at blocks from lo to below hi. -/
structure VarB (wx : World) (G lo hi : Nat) (v : BV) (d : BD) : Prop where
  c0 : wx.cell? ⟨G, 0, none⟩ = some (.bool v.g)
  c1 : wx.cell? ⟨G, 1, none⟩ = some (.slice v.a v.n v.c)
  own : AllOwn lo hi wx [(v, d)]
theorem VarB.later {wx wy : World} {G lo hi : Nat} {v : BV} {d : BD} (h : VarB wx G lo hi v d) (hb : Below wx.heap.size wx wy) : VarB wy G lo hi v d :=
  ⟨cell_later hb h.c0, cell_later hb h.c1, h.own.later hb⟩
theorem VarB.but {wx wy : World} {G lo hi lo' hi' : Nat} {v : BV} {d : BD} (h : VarB wx G lo hi v d) (hb : But lo' hi' wx wy) (hG : G < lo' ∨ hi' ≤ G) (hd : hi ≤ lo' ∨ hi' ≤ lo) : VarB wy G lo hi v d :=
  ⟨hb.cell h.c0 hG, hb.cell h.c1 hG, h.own.but hb hd⟩
theorem VarB.mark {wx wy : World} {G lo hi : Nat} {v : BV} {d d' : BD} (h : VarB wx G lo hi v d) (hb : But lo hi wx wy) (hG : G < lo ∨ hi ≤ G) (ho : AllOwn lo hi wy [(v, d')]) : VarB wy G lo hi v d' :=
  ⟨hb.cell h.c0 hG, hb.cell h.c1 hG, ho⟩
theorem VarB.low {wx : World} {G lo hi lo' : Nat} {v : BV} {d : BD} (h : VarB wx G lo hi v d) (hl : lo' ≤ lo) : VarB wx G lo' hi v d := ⟨h.c0, h.c1, h.own.wide hl (Nat.le_refl _)⟩
theorem VarB.start {wx : World} {lo : Nat} {v : BV} {d : BD} (t : TypeId) (h : AllOwn lo wx.heap.size wx [(v, d)]) : VarB (wx.alloc (.cells #[.bool v.g, .slice v.a v.n v.c] t)) wx.heap.size lo wx.heap.size v d :=
  ⟨by simp [go_sem], by simp [go_sem], h.later ((Below.refl _ _).alloc (Nat.le_refl _) _)⟩
theorem VarB.gt {wx : World} {G lo hi : Nat} {v : BV} {d : BD} (h : VarB wx G lo hi v d) : G < wx.heap.size := World.block_lt_of_cell? _ _ h.c0
/-- An answer lies in its box. -/
structure MetB (wk wx : World) (G : Nat) (v : BV) (d : BD) : Prop where
  lo : wk.heap.size ≤ G
  hi : G < wx.heap.size
  var : VarB wx G wk.heap.size wx.heap.size v d
  bel : Below wk.heap.size wk wx
theorem metB_alloc {wk w5 : World} {v : BV} {d : BD} {B : Nat} (t : TypeId) (hk : Below wk.heap.size wk w5) (ho : AllOwn B w5.heap.size w5 [(v, d)]) (hB : wk.heap.size ≤ B) :
    MetB wk (w5.alloc (.cells #[.bool v.g, .slice v.a v.n v.c] t)) w5.heap.size v d := by
  have hv := VarB.start t (ho.wide hB (Nat.le_refl _))
  exact ⟨hk.size, by simp, ⟨hv.c0, hv.c1, hv.own.wide (Nat.le_refl _) (by simp)⟩, hk.alloc hk.size _⟩
theorem metB_but {w5 : World} {v : BV} {G : Nat} : But G (G + 1) w5 ((w5.setCell ⟨G, 0, none⟩ (.bool v.g)).setCell ⟨G, 1, none⟩ (.slice v.a v.n v.c)) := (((But.refl _ _ _).set (p := ⟨G, 0, none⟩) (Nat.le_refl _) (Nat.lt_succ_self _) _).set (p := ⟨G, 1, none⟩) (Nat.le_refl _) (Nat.lt_succ_self _) _)
theorem metB_set {wk w5 : World} {v : BV} {d : BD} {B G : Nat} {z0 : Value} {z1 : Value} (hk : Below wk.heap.size wk w5) (ho : AllOwn B w5.heap.size w5 [(v, d)]) (hG : wk.heap.size ≤ G) (hGB : G < B) (e0 : w5.cell? ⟨G, 0, none⟩ = some z0) (e1 : w5.cell? ⟨G, 1, none⟩ = some z1) :
    MetB wk ((w5.setCell ⟨G, 0, none⟩ (.bool v.g)).setCell ⟨G, 1, none⟩ (.slice v.a v.n v.c)) G v d := by
  have hb := metB_but (w5 := w5) (v := v) (G := G)
  have hlt : G < w5.heap.size := World.block_lt_of_cell? _ _ e0
  refine ⟨hG, by have := hb.size; omega, ⟨?_, ?_, ?_⟩, hb.below hk hG hk.size⟩
  · simp [go_sem, e0, e1]
  · simp [go_sem, e0, e1]
  · exact (ho.but hb (.inr (by omega))).wide (by omega) hb.size
end Go.Proofs.YtdgonpbponnnaaaGreatDoor

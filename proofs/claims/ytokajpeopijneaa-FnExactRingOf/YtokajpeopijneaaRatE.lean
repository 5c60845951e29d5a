/- Sums, differences, products and quotients of fractions by value: the program's and the specification's. No condition beyond those typed. Written by mkrate.py. -/
import Derived.Test.YtokajpeopijneaaMake2
namespace Go.Proofs.Ytokajpeopijneaa
open Go.RowKit
set_option linter.unusedVariables false
set_option maxRecDepth 100000
set_option linter.unusedSimpArgs false

/-- A variable's box that holds a value of the kind B. -/
structure BxB (wk wx : World) (G : Nat) (x : BV) (V : Int) : Prop where
  lo : wk.heap.size ≤ G
  hi : G < wx.heap.size
  c0 : wx.cell? ⟨G, 0, none⟩ = some (.bool x.g)
  c1 : wx.cell? ⟨G, 1, none⟩ = some (.slice x.a x.n x.c)
  ow : Ow wk.heap.size wx.heap.size wx x V
  bel : Below wk.heap.size wk wx
theorem bxB_alloc {wk w5 : World} {x : BV} {V : Int} {B : Nat} (t : TypeId) (hk : Below wk.heap.size wk w5) (how : Ow B w5.heap.size w5 x V) (hB : wk.heap.size ≤ B) : BxB wk (w5.alloc (.cells #[.bool x.g, .slice x.a x.n x.c] t)) w5.heap.size x V :=
  ⟨hk.size, by simp, by simp [go_sem], by simp [go_sem], (how.later ((Below.refl _ _).alloc (Nat.le_refl _) _)).wide hB (by simp), hk.alloc hk.size _⟩
theorem bxB_set {wk w5 : World} {x : BV} {V : Int} {B G : Nat} {z0 : Value} {z1 : Value} (hk : Below wk.heap.size wk w5) (how : Ow B w5.heap.size w5 x V) (hG : wk.heap.size ≤ G) (hGB : G < B) (e0 : w5.cell? ⟨G, 0, none⟩ = some z0) (e1 : w5.cell? ⟨G, 1, none⟩ = some z1) : BxB wk ((w5.setCell ⟨G, 0, none⟩ (.bool x.g)).setCell ⟨G, 1, none⟩ (.slice x.a x.n x.c)) G x V := by
  have hb := metB_but (w5 := w5) (v := x) (G := G)
  have hlt : G < w5.heap.size := World.block_lt_of_cell? _ _ e0
  refine ⟨hG, by have := hb.size; omega, ?_, ?_, (how.but hb (.inr (by omega))).wide (by omega) hb.size, hb.below hk hG hk.size⟩
  · simp [go_sem, e0, e1]
  · simp [go_sem, e0, e1]
/-- A variable's box that holds a value of the kind Q. -/
structure BxQ (wk wx : World) (G : Nat) (x : QV) (N : Int) (D : Int) : Prop where
  lo : wk.heap.size ≤ G
  hi : G < wx.heap.size
  c0 : wx.cell? ⟨G, 0, none⟩ = some (.bool x.num.g)
  c1 : wx.cell? ⟨G, 1, none⟩ = some (.slice x.num.a x.num.n x.num.c)
  c2 : wx.cell? ⟨G, 2, none⟩ = some (.bool x.den.g)
  c3 : wx.cell? ⟨G, 3, none⟩ = some (.slice x.den.a x.den.n x.den.c)
  ow1 : Ow wk.heap.size wx.heap.size wx x.num N
  ow2 : Ow wk.heap.size wx.heap.size wx x.den D
  bel : Below wk.heap.size wk wx
theorem bxQ_alloc {wk w5 : World} {x : QV} {N : Int} {D : Int} {B : Nat} (t : TypeId) (hk : Below wk.heap.size wk w5) (how1 : Ow B w5.heap.size w5 x.num N) (how2 : Ow B w5.heap.size w5 x.den D) (hB : wk.heap.size ≤ B) : BxQ wk (w5.alloc (.cells #[.bool x.num.g, .slice x.num.a x.num.n x.num.c, .bool x.den.g, .slice x.den.a x.den.n x.den.c] t)) w5.heap.size x N D :=
  ⟨hk.size, by simp, by simp [go_sem], by simp [go_sem], by simp [go_sem], by simp [go_sem], (how1.later ((Below.refl _ _).alloc (Nat.le_refl _) _)).wide hB (by simp), (how2.later ((Below.refl _ _).alloc (Nat.le_refl _) _)).wide hB (by simp), hk.alloc hk.size _⟩
theorem bxQ_set {wk w5 : World} {x : QV} {N : Int} {D : Int} {B G : Nat} {z0 : Value} {z1 : Value} {z2 : Value} {z3 : Value} (hk : Below wk.heap.size wk w5) (how1 : Ow B w5.heap.size w5 x.num N) (how2 : Ow B w5.heap.size w5 x.den D) (hG : wk.heap.size ≤ G) (hGB : G < B) (e0 : w5.cell? ⟨G, 0, none⟩ = some z0) (e1 : w5.cell? ⟨G, 1, none⟩ = some z1) (e2 : w5.cell? ⟨G, 2, none⟩ = some z2) (e3 : w5.cell? ⟨G, 3, none⟩ = some z3) : BxQ wk ((((w5.setCell ⟨G, 0, none⟩ (.bool x.num.g)).setCell ⟨G, 1, none⟩ (.slice x.num.a x.num.n x.num.c)).setCell ⟨G, 2, none⟩ (.bool x.den.g)).setCell ⟨G, 3, none⟩ (.slice x.den.a x.den.n x.den.c)) G x N D := by
  have hb := metQ_but (w5 := w5) (v := x) (G := G)
  have hlt : G < w5.heap.size := World.block_lt_of_cell? _ _ e0
  refine ⟨hG, by have := hb.size; omega, ?_, ?_, ?_, ?_, (how1.but hb (.inr (by omega))).wide (by omega) hb.size, (how2.but hb (.inr (by omega))).wide (by omega) hb.size, hb.below hk hG hk.size⟩
  · simp [go_sem, e0, e1, e2, e3]
  · simp [go_sem, e0, e1, e2, e3]
  · simp [go_sem, e0, e1, e2, e3]
  · simp [go_sem, e0, e1, e2, e3]

end Go.Proofs.Ytokajpeopijneaa

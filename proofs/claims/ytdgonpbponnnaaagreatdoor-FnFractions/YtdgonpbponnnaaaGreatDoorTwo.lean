/- What the laws over two numbers hold of the memory while they go on: both arguments lie where they lay, and read as they read. No condition beyond those typed. -/
import Derived.Test.YtdgonpbponnnaaaGreatDoorEq
import Derived.Deep.DeepCutAuto
import Derived.Deep.CutBlock
namespace Go.Proofs.YtdgonpbponnnaaaGreatDoor
open Go.RowKit
set_option linter.unusedVariables false
set_option maxRecDepth 100000
set_option linter.unusedSimpArgs false

theorem below_on {w w1 w2 : World} (h : Below w.heap.size w w1) (k : Below w1.heap.size w1 w2) : Below w.heap.size w w2 := h.trans (k.mono h.size)

/-- A world behind the boxes of two arguments. -/
structure Two (w wx : World) (g : Bool) (a : Option Addr) (n c : Nat) (xs : List Int) (g' : Bool) (a' : Option Addr) (m c' : Nat) (ys : List Int) : Prop where
  bel : Below w.heap.size w wx
  x0 : wx.cell? ⟨w.heap.size, 0, none⟩ = some (.bool g)
  x1 : wx.cell? ⟨w.heap.size, 1, none⟩ = some (.slice a n c)
  y0 : wx.cell? ⟨w.heap.size + 1, 0, none⟩ = some (.bool g')
  y1 : wx.cell? ⟨w.heap.size + 1, 1, none⟩ = some (.slice a' m c')
  sx : Sl wx a xs
  sy : Sl wx a' ys

theorem Two.later {w wx wy : World} {g : Bool} {a : Option Addr} {n c : Nat} {xs : List Int} {g' : Bool} {a' : Option Addr} {m c' : Nat} {ys : List Int}
    (h : Two w wx g a n c xs g' a' m c' ys) (hb : Below wx.heap.size wx wy) : Two w wy g a n c xs g' a' m c' ys :=
  ⟨below_on h.bel hb, cell_later hb h.x0, cell_later hb h.x1, cell_later hb h.y0, cell_later hb h.y1, h.sx.later (Nat.le_refl _) hb, h.sy.later (Nat.le_refl _) hb⟩

theorem Two.start (w : World) (g : Bool) (a : Option Addr) (n c : Nat) (xs : List Int) (g' : Bool) (a' : Option Addr) (m c' : Nat) (ys : List Int) (t t' : TypeId) (hx : Sl w a xs) (hy : Sl w a' ys) :
    Two w ((w.alloc (.cells #[.bool g, .slice a n c] t)).alloc (.cells #[.bool g', .slice a' m c'] t')) g a n c xs g' a' m c' ys := by
  have hb : Below w.heap.size w ((w.alloc (.cells #[.bool g, .slice a n c] t)).alloc (.cells #[.bool g', .slice a' m c'] t')) := ((Below.refl _ _).alloc (Nat.le_refl _) _).alloc (by simp) _
  exact ⟨hb, by simp [go_sem], by simp [go_sem], by simp [go_sem], by simp [go_sem], hx.later (Nat.le_refl _) hb, hy.later (Nat.le_refl _) hb⟩

theorem Sl.drew {w : World} {a : Option Addr} {xs : List Int} (h : Sl w a xs) : Sl w.drew a xs := h.later (Nat.le_refl _) (Below.refl _ _).drew
theorem below_of_drew {w w1 : World} (h : Below w.drew.heap.size w.drew w1) : Below w.heap.size w w1 := (Below.refl _ _).drew.trans h

/-- A number that the law itself has made: its box at block G, its limbs xs. -/
structure Box (wx : World) (G : Nat) (g : Bool) (b n c : Nat) (xs : List Int) : Prop where
  c0 : wx.cell? ⟨G, 0, none⟩ = some (.bool g)
  c1 : wx.cell? ⟨G, 1, none⟩ = some (.slice (some ⟨b, 0, none⟩) n c)
  s : Sl wx (some ⟨b, 0, none⟩) xs
theorem Box.later {wx wy : World} {G : Nat} {g : Bool} {b n c : Nat} {xs : List Int} (h : Box wx G g b n c xs) (hb : Below wx.heap.size wx wy) : Box wy G g b n c xs :=
  ⟨cell_later hb h.c0, cell_later hb h.c1, h.s.later (Nat.le_refl _) hb⟩
theorem Box.start {wx : World} {g : Bool} {b n c : Nat} {xs : List Int} (t : TypeId) (h : Sl wx (some ⟨b, 0, none⟩) xs) : Box (wx.alloc (.cells #[.bool g, .slice (some ⟨b, 0, none⟩) n c] t)) wx.heap.size g b n c xs :=
  ⟨by simp [go_sem], by simp [go_sem], h.later (Nat.le_refl _) ((Below.refl _ _).alloc (Nat.le_refl _) _)⟩
end Go.Proofs.YtdgonpbponnnaaaGreatDoor

/- A slice of bytes as an argument; a new cursor over it. No condition beyond those typed. -/
import Derived.Test.YtdgonpbponnnaaaGreatDoorCur
namespace Go.Proofs.YtdgonpbponnnaaaGreatDoor
open Go.RowKit
set_option linter.unusedVariables false
set_option maxRecDepth 100000
set_option linter.unusedSimpArgs false

theorem Cur.lt {C T : Nat} {w : World} (h : Cur C T w) : C < w.heap.size := by obtain ⟨_, _, _, e, _⟩ := h.hd; exact World.block_lt_of_cell? _ _ e
theorem Cur.below {B C T : Nat} {w w' : World} (h : Cur C T w) (hb : Below B w w') (hC : C < B) : Cur C T w' := by
  obtain ⟨⟨a, n, c, e0, hn, sb⟩, ⟨i, i0, i1, e1⟩, ⟨s, e2⟩, fz⟩ := h
  refine ⟨⟨a, n, c, (hb.cell (p := ⟨C, 0, none⟩) hC).trans e0, hn, ?_⟩, ⟨i, i0, i1, (hb.cell (p := ⟨C, 1, none⟩) hC).trans e1⟩, ⟨s, (hb.cell (p := ⟨C, 2, none⟩) hC).trans e2⟩, fun o => (hb.frozen (p := ⟨C, o, none⟩) hC).trans (fz o)⟩
  rcases sb with h | ⟨b, off, ea, hl, hc⟩
  · exact .inl h
  · refine .inr ⟨b, off, ea, hl, fun i hi => ?_⟩
    obtain ⟨x, x0, x1, e⟩ := hc i hi
    exact ⟨x, x0, x1, (hb.cell (p := ⟨b, off + i, none⟩) (by show b < B; omega)).trans e⟩
/-- A slice of bytes as an argument. -/
structure ArY (w : World) (a : Option Addr) (n : Nat) : Prop where
  sb : Sb w w.heap.size a n
  top : n ≤ 9223372036854775807
theorem ArY.later {w w' : World} {a : Option Addr} {n : Nat} (h : ArY w a n) (hb : Below w.heap.size w w') : ArY w' a n := by
  refine ⟨?_, h.top⟩
  rcases h.sb with h | ⟨b, off, ea, hl, hc⟩
  · exact .inl h
  · refine .inr ⟨b, off, ea, Nat.lt_of_lt_of_le hl hb.size, fun i hi => ?_⟩
    obtain ⟨x, x0, x1, e⟩ := hc i hi
    exact ⟨x, x0, x1, cell_later hb e⟩
theorem Cur.new {w : World} {a : Option Addr} {n c : Nat} {t : TypeId} (h : ArY w a n) : Cur w.heap.size 0 (w.alloc (.cells #[.slice a n c, .int .i64 0, .int .u64 0] t)) := by
  refine ⟨⟨a, n, c, by simp [go_sem], h.top, ?_⟩, ⟨0, Int.le_refl _, Int.le_refl _, by simp [go_sem]⟩, ⟨0, by simp [go_sem]⟩, fun o => by simp [go_sem]⟩
  rcases h.sb with h | ⟨b, off, ea, hl, hc⟩
  · exact .inl h
  · refine .inr ⟨b, off, ea, hl, fun i hi => ?_⟩
    obtain ⟨x, x0, x1, e⟩ := hc i hi
    exact ⟨x, x0, x1, cell_later ((Below.refl _ _).alloc (Nat.le_refl _) _) e⟩
end Go.Proofs.YtdgonpbponnnaaaGreatDoor

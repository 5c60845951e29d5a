/- Answers that are slices of integers or of triangles: what marks do. No condition beyond those typed. Written by mkrt11.py. -/
import Derived.Test.YtoffondgdnmhkaaDoorRRRRw11
import Derived.Test.YtoffondgdnmhkaaDoorRRRMark
import Derived.Test.YtoffondgdnmhkaaDoorRRRTrH
namespace Go.Proofs.YtoffondgdnmhkaaDoorRRR
open Go.RowKit
set_option linter.unusedVariables false
set_option maxRecDepth 100000
set_option linter.unusedSimpArgs false

/-- An answer of integers, in a block of its own from B on. -/
structure RtI (B : Nat) (w : World) (a : Option Addr) (n c : Nat) (l : List Int) : Prop where
  len : l.length = n
  own : Own B w a l
theorem RtI.later {B : Nat} {w w' : World} {a : Option Addr} {n c : Nat} {l : List Int} (h : RtI B w a n c l) (hb : Below w.heap.size w w') : RtI B w' a n c l := ⟨h.len, h.own.later hb⟩
theorem RtI.sl {B : Nat} {w : World} {a : Option Addr} {n c : Nat} {l : List Int} (h : RtI B w a n c l) : Sl w a l := h.own.sl
theorem RtI.mono {B B' : Nat} {w : World} {a : Option Addr} {n c : Nat} {l : List Int} (h : RtI B w a n c l) (hb : B' ≤ B) : RtI B' w a n c l := ⟨h.len, h.own.mono hb⟩
theorem RtI.keep {B G : Nat} {w w' : World} {a : Option Addr} {n c : Nat} {l : List Int} (h : RtI B w a n c l) (hb : But G (G + 1) w w') (hG : G < B) : RtI B w' a n c l := by
  refine ⟨h.len, ?_⟩
  rcases h.own with h0 | ⟨b, cur, e, h1, h2, h3⟩
  · exact .inl h0
  · refine .inr ⟨b, cur, e, h1, ?_, h3⟩
    rw [hb.block b (Array.getElem?_eq_some_iff.1 h2).1 (.inr (by omega))]
    exact h2
/-- A slice of integers that lies below B. -/
def SlI8 (w : World) (B : Nat) (a : Option Addr) (l : List Int) : Prop := l = [] ∨ ∃ b off, a = some ⟨b, off, none⟩ ∧ b < B ∧ b < w.heap.size ∧ ∀ i, i < l.length → w.cell? ⟨b, off + i, none⟩ = some (.int .i64 (l.getD i 0))
theorem Sl.below8 {w : World} {a : Option Addr} {l : List Int} (h : Sl w a l) : SlI8 w w.heap.size a l := by
  rcases h with h | ⟨b, off, e, hb, hc⟩
  · exact .inl h
  · exact .inr ⟨b, off, e, hb, hb, hc⟩
theorem SlI8.sl {w : World} {B : Nat} {a : Option Addr} {l : List Int} (h : SlI8 w B a l) : Sl w a l := by
  rcases h with h | ⟨b, off, e, _, hb, hc⟩
  · exact .inl h
  · exact .inr ⟨b, off, e, hb, hc⟩
theorem SlI8.keep {w w' : World} {B lo hi : Nat} {a : Option Addr} {l : List Int} (h : SlI8 w B a l) (hb : But lo hi w w') (hB : B ≤ lo) : SlI8 w' B a l := by
  rcases h with h | ⟨b, off, e, h0, h1, hc⟩
  · exact .inl h
  · exact .inr ⟨b, off, e, h0, Nat.lt_of_lt_of_le h1 hb.size, fun i hi => hb.cell (hc i hi) (.inl (by omega))⟩
theorem SlI8.later {w w' : World} {B : Nat} {a : Option Addr} {l : List Int} (h : SlI8 w B a l) (hb : Below w.heap.size w w') : SlI8 w' B a l := h.keep (But.of_below (lo := B) (hi := B) hb) (Nat.le_refl _)
/-- A slice of triangles that lies below B. -/
def SlT8 (w : World) (B : Nat) (a : Option Addr) (l : List (Int × Int × Int)) : Prop := l = [] ∨ ∃ b off, a = some ⟨b, off, none⟩ ∧ b < B ∧ b < w.heap.size ∧ ∀ i (h : i < l.length), w.cell? ⟨b, off + i * 3, none⟩ = some (.int .i64 l[i].1) ∧ w.cell? ⟨b, off + i * 3 + 1, none⟩ = some (.int .i64 l[i].2.1) ∧ w.cell? ⟨b, off + i * 3 + 2, none⟩ = some (.int .i64 l[i].2.2)
theorem SlT.below8 {w : World} {a : Option Addr} {l : List (Int × Int × Int)} (h : SlT w a l) : SlT8 w w.heap.size a l := by
  rcases h with h | ⟨b, off, e, hb, hc⟩
  · exact .inl h
  · exact .inr ⟨b, off, e, hb, hb, hc⟩
theorem SlT8.sl {w : World} {B : Nat} {a : Option Addr} {l : List (Int × Int × Int)} (h : SlT8 w B a l) : SlT w a l := by
  rcases h with h | ⟨b, off, e, _, hb, hc⟩
  · exact .inl h
  · exact .inr ⟨b, off, e, hb, hc⟩
theorem SlT8.keep {w w' : World} {B lo hi : Nat} {a : Option Addr} {l : List (Int × Int × Int)} (h : SlT8 w B a l) (hb : But lo hi w w') (hB : B ≤ lo) : SlT8 w' B a l := by
  rcases h with h | ⟨b, off, e, h0, h1, hc⟩
  · exact .inl h
  · refine .inr ⟨b, off, e, h0, Nat.lt_of_lt_of_le h1 hb.size, fun i hi => ?_⟩
    obtain ⟨c1, c2, c3⟩ := hc i hi
    exact ⟨hb.cell c1 (.inl (by omega)), hb.cell c2 (.inl (by omega)), hb.cell c3 (.inl (by omega))⟩
theorem SlT8.later {w w' : World} {B : Nat} {a : Option Addr} {l : List (Int × Int × Int)} (h : SlT8 w B a l) (hb : Below w.heap.size w w') : SlT8 w' B a l := h.keep (But.of_below (lo := B) (hi := B) hb) (Nat.le_refl _)
theorem RwI.rt {B : Nat} {w : World} {v : Value} {L : List Int} (h : RwI B w v L) : ∃ a c, v = .slice a L.length c ∧ RtI B w a L.length c L := by
  rcases h.open with ⟨rfl, rfl⟩ | ⟨g, c, rfl, _⟩
  · exact ⟨none, 0, rfl, ⟨rfl, .inl rfl⟩⟩
  · exact ⟨_, c, rfl, ⟨rfl, Own.of_owns h.row rfl⟩⟩
end Go.Proofs.YtoffondgdnmhkaaDoorRRR

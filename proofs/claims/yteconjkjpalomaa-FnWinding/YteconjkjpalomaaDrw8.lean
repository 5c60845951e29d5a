/- The draws of chapter 8's laws; two lists of points held against each other. No condition beyond those typed. Written by mkdrw8.py. -/
import Derived.Test.YteconjkjpalomaaDr8
namespace Go.Proofs.Yteconjkjpalomaa
open Go.RowKit
set_option linter.unusedVariables false
set_option maxRecDepth 100000
set_option linter.unusedSimpArgs false

def OutSM (w : World) (e : Ending) (w' : World) : Prop := ∃ p q r s : Int × Int, e = .returned (.tuple #[.agg #[.int .i64 p.1, .int .i64 p.2], .agg #[.int .i64 q.1, .int .i64 q.2], .agg #[.int .i64 r.1, .int .i64 r.2], .agg #[.int .i64 s.1, .int .i64 s.2]]) ∧ (Near p ∧ Near q ∧ Near r ∧ Near s) ∧ Below w.heap.size w w'
def OutGI (w : World) (e : Ending) (w' : World) : Prop := ∃ x y : Int, e = .returned (.tuple #[.int .i64 x, .int .i64 y]) ∧ (-100000 ≤ x ∧ x ≤ 100000 ∧ -100000 ≤ y ∧ y ≤ 100000) ∧ Below w.heap.size w w'
theorem ints_at (w : World) (zs : List Int) : ∀ i, i < zs.length → (w.alloc (.cells (zs.map (Value.int .i64)).toArray 3)).cell? ⟨w.heap.size, 0 + i, none⟩ = some (.int .i64 (zs.getD i 0)) := by
  intro i hi
  rw [Nat.zero_add, List.getD_eq_getElem?_getD, List.getElem?_eq_getElem hi]
  simp [go_sem, hi]
def OutWP (w : World) (e : Ending) (w' : World) : Prop := ∃ (a : Option Addr) (n c : Nat) (l : List (Int × Int)) (q : Int × Int), e = .returned (.tuple #[.slice a n c, .agg #[.int .i64 q.1, .int .i64 q.2]]) ∧ ArP w' a n c l ∧ (∀ p ∈ l, Near p) ∧ n ≤ 20 ∧ Near q ∧ Below w.heap.size w w'
def OutWy (w : World) (e : Ending) (w' : World) : Prop := ∃ (a : Option Addr) (n c : Nat) (l : List (Int × Int)), e = .returned (.slice a n c) ∧ ArP w' a n c l ∧ (∀ p ∈ l, Near p) ∧ n ≤ 20 ∧ Below w.heap.size w w'
theorem ar_but8 {w w' : World} {C n c : Nat} {a : Option Addr} {l : List (Int × Int)} (h : ArP w a n c l) (hb : But C (C + 1) w w') (hG : ∃ G, a = some ⟨G, 0, none⟩ ∧ C < G) : ArP w' a n c l := by
  refine ⟨?_, h.len, h.cap, h.top⟩
  obtain ⟨G, rfl, hC⟩ := hG
  rcases h.sl with h | ⟨b, off, e, h1, h2⟩
  · exact .inl h
  · simp only [Option.some.injEq, Addr.mk.injEq, and_true] at e
    obtain ⟨rfl, rfl⟩ := e
    exact .inr ⟨G, 0, rfl, Nat.lt_of_lt_of_le h1 hb.size, fun i hi => ⟨hb.cell (h2 i hi).1 (.inr (by omega)), hb.cell (h2 i hi).2 (.inr (by omega))⟩⟩
end Go.Proofs.Yteconjkjpalomaa

/- The least span of some fractions: the program's leastSpan. No condition beyond those typed. Written by mkleastn.py. -/
import Derived.Test.YtdgonpbponnnaaaGreatDoorLeast0
namespace Go.Proofs.YtdgonpbponnnaaaGreatDoor
open Go.RowKit
set_option linter.unusedVariables false
set_option maxRecDepth 100000
set_option linter.unusedSimpArgs false

/-- A fraction's value and what it reads as. -/
structure RQ where
  q : QV
  N : Int
  D : Int
structure RQ.Is (w : World) (x : RQ) : Prop where
  is : IsQ w x.q x.N x.D
  kn : Bd x.N 200000
  kd : Bd x.D 200000
theorem cmpZ_lt1 {A B : Int} (h : A < B) : decide (cmpZ A B < 0) = true := by unfold cmpZ; rw [if_pos h]; rfl
theorem cmpZ_lt0 {A B : Int} (h : ¬ A < B) : decide (cmpZ A B < 0) = false := by unfold cmpZ; rw [if_neg h]; split <;> rfl
theorem cmpZ_gt1 {A B : Int} (h : B < A) : decide (0 < cmpZ A B) = true := by unfold cmpZ; rw [if_neg (by omega), if_pos h]; rfl
theorem cmpZ_gt0 {A B : Int} (h : ¬ B < A) : decide (0 < cmpZ A B) = false := by unfold cmpZ; rw [if_neg h]; split <;> rfl
def stLo (s a : RQ) : RQ := if a.N * s.D < s.N * a.D then a else s
def stHi (s a : RQ) : RQ := if s.N * a.D < a.N * s.D then a else s
/-- A slice of fractions. -/
structure Rats (w : World) (b off : Nat) (l : List RQ) : Prop where
  at_ : ∀ i (h : i < l.length), w.cell? ⟨b, off + i * 4 + 0, none⟩ = some (.bool l[i].q.num.g) ∧ w.cell? ⟨b, off + i * 4 + 1, none⟩ = some (.slice l[i].q.num.a l[i].q.num.n l[i].q.num.c) ∧ w.cell? ⟨b, off + i * 4 + 2, none⟩ = some (.bool l[i].q.den.g) ∧ w.cell? ⟨b, off + i * 4 + 3, none⟩ = some (.slice l[i].q.den.a l[i].q.den.n l[i].q.den.c)
  is : ∀ i (h : i < l.length), RQ.Is w l[i]
  lt : b < w.heap.size
/-- The boxes of the least and the greatest so far. -/
structure Lst (w wr : World) (G1 G2 : Nat) (q1 q2 : QV) : Prop where
  a0 : wr.cell? ⟨G1, 0, none⟩ = some (.bool q1.num.g)
  a1 : wr.cell? ⟨G1, 1, none⟩ = some (.slice q1.num.a q1.num.n q1.num.c)
  a2 : wr.cell? ⟨G1, 2, none⟩ = some (.bool q1.den.g)
  a3 : wr.cell? ⟨G1, 3, none⟩ = some (.slice q1.den.a q1.den.n q1.den.c)
  b0 : wr.cell? ⟨G2, 0, none⟩ = some (.bool q2.num.g)
  b1 : wr.cell? ⟨G2, 1, none⟩ = some (.slice q2.num.a q2.num.n q2.num.c)
  b2 : wr.cell? ⟨G2, 2, none⟩ = some (.bool q2.den.g)
  b3 : wr.cell? ⟨G2, 3, none⟩ = some (.slice q2.den.a q2.den.n q2.den.c)
  f1 : ∀ o, wr.frozen? ⟨G1, o, none⟩ = false
  f2 : ∀ o, wr.frozen? ⟨G2, o, none⟩ = false
  r0 : wr.cell? ⟨w.heap.size + 1, 0, none⟩ = some (.bool false)
  r1 : wr.cell? ⟨w.heap.size + 1, 1, none⟩ = some (.slice none 0 0)
  r2 : wr.cell? ⟨w.heap.size + 1, 2, none⟩ = some (.bool false)
  r3 : wr.cell? ⟨w.heap.size + 1, 3, none⟩ = some (.slice none 0 0)
  r4 : wr.cell? ⟨w.heap.size + 1, 4, none⟩ = some (.bool false)
  r5 : wr.cell? ⟨w.heap.size + 1, 5, none⟩ = some (.slice none 0 0)
  r6 : wr.cell? ⟨w.heap.size + 1, 6, none⟩ = some (.bool false)
  r7 : wr.cell? ⟨w.heap.size + 1, 7, none⟩ = some (.slice none 0 0)
  fr : ∀ o, wr.frozen? ⟨w.heap.size + 1, o, none⟩ = false
  bel : Below w.heap.size w wr
theorem Lst.later {w wr wy : World} {G1 G2 : Nat} {q1 q2 : QV} (h : Lst w wr G1 G2 q1 q2) (hb : Below wr.heap.size wr wy) : Lst w wy G1 G2 q1 q2 :=
  ⟨cell_later hb h.a0, cell_later hb h.a1, cell_later hb h.a2, cell_later hb h.a3, cell_later hb h.b0, cell_later hb h.b1, cell_later hb h.b2, cell_later hb h.b3, fun o => frozen_later hb (World.block_lt_of_cell? _ _ h.a0) (h.f1 o), fun o => frozen_later hb (World.block_lt_of_cell? _ _ h.b0) (h.f2 o), cell_later hb h.r0, cell_later hb h.r1, cell_later hb h.r2, cell_later hb h.r3, cell_later hb h.r4, cell_later hb h.r5, cell_later hb h.r6, cell_later hb h.r7, fun o => frozen_later hb (World.block_lt_of_cell? _ _ h.r0) (h.fr o), below_on h.bel hb⟩
theorem Lst.set1 {w wr : World} {G1 G2 : Nat} {q1 q2 q : QV} (h : Lst w wr G1 G2 q1 q2) (hne : G1 ≠ G2) (g1 : w.heap.size + 1 < G1) (g2 : w.heap.size + 1 < G2) : Lst w ((((wr.setCell ⟨G1, 0, none⟩ (.bool q.num.g)).setCell ⟨G1, 1, none⟩ (.slice q.num.a q.num.n q.num.c)).setCell ⟨G1, 2, none⟩ (.bool q.den.g)).setCell ⟨G1, 3, none⟩ (.slice q.den.a q.den.n q.den.c)) G1 G2 q q2 :=
  ⟨by simp [go_sem, h.a0, h.a1, h.a2, h.a3], by simp [go_sem, h.a0, h.a1, h.a2, h.a3], by simp [go_sem, h.a0, h.a1, h.a2, h.a3], by simp [go_sem, h.a0, h.a1, h.a2, h.a3], cs_other (cs_other (cs_other (cs_other h.b0 (fun e => hne e.symm)) (fun e => hne e.symm)) (fun e => hne e.symm)) (fun e => hne e.symm), cs_other (cs_other (cs_other (cs_other h.b1 (fun e => hne e.symm)) (fun e => hne e.symm)) (fun e => hne e.symm)) (fun e => hne e.symm), cs_other (cs_other (cs_other (cs_other h.b2 (fun e => hne e.symm)) (fun e => hne e.symm)) (fun e => hne e.symm)) (fun e => hne e.symm), cs_other (cs_other (cs_other (cs_other h.b3 (fun e => hne e.symm)) (fun e => hne e.symm)) (fun e => hne e.symm)) (fun e => hne e.symm), fun o => by simp [go_sem, h.f1 o], fun o => by simp [go_sem, h.f2 o], cs_other (cs_other (cs_other (cs_other h.r0 (by omega)) (by omega)) (by omega)) (by omega), cs_other (cs_other (cs_other (cs_other h.r1 (by omega)) (by omega)) (by omega)) (by omega), cs_other (cs_other (cs_other (cs_other h.r2 (by omega)) (by omega)) (by omega)) (by omega), cs_other (cs_other (cs_other (cs_other h.r3 (by omega)) (by omega)) (by omega)) (by omega), cs_other (cs_other (cs_other (cs_other h.r4 (by omega)) (by omega)) (by omega)) (by omega), cs_other (cs_other (cs_other (cs_other h.r5 (by omega)) (by omega)) (by omega)) (by omega), cs_other (cs_other (cs_other (cs_other h.r6 (by omega)) (by omega)) (by omega)) (by omega), cs_other (cs_other (cs_other (cs_other h.r7 (by omega)) (by omega)) (by omega)) (by omega), fun o => by simp [go_sem, h.fr o], ((((h.bel.setCell (by show w.heap.size ≤ G1; omega) _).setCell (by show w.heap.size ≤ G1; omega) _).setCell (by show w.heap.size ≤ G1; omega) _).setCell (by show w.heap.size ≤ G1; omega) _)⟩
theorem Lst.set2 {w wr : World} {G1 G2 : Nat} {q1 q2 q : QV} (h : Lst w wr G1 G2 q1 q2) (hne : G1 ≠ G2) (g1 : w.heap.size + 1 < G1) (g2 : w.heap.size + 1 < G2) : Lst w ((((wr.setCell ⟨G2, 0, none⟩ (.bool q.num.g)).setCell ⟨G2, 1, none⟩ (.slice q.num.a q.num.n q.num.c)).setCell ⟨G2, 2, none⟩ (.bool q.den.g)).setCell ⟨G2, 3, none⟩ (.slice q.den.a q.den.n q.den.c)) G1 G2 q1 q :=
  ⟨cs_other (cs_other (cs_other (cs_other h.a0 (fun e => hne e)) (fun e => hne e)) (fun e => hne e)) (fun e => hne e), cs_other (cs_other (cs_other (cs_other h.a1 (fun e => hne e)) (fun e => hne e)) (fun e => hne e)) (fun e => hne e), cs_other (cs_other (cs_other (cs_other h.a2 (fun e => hne e)) (fun e => hne e)) (fun e => hne e)) (fun e => hne e), cs_other (cs_other (cs_other (cs_other h.a3 (fun e => hne e)) (fun e => hne e)) (fun e => hne e)) (fun e => hne e), by simp [go_sem, h.b0, h.b1, h.b2, h.b3], by simp [go_sem, h.b0, h.b1, h.b2, h.b3], by simp [go_sem, h.b0, h.b1, h.b2, h.b3], by simp [go_sem, h.b0, h.b1, h.b2, h.b3], fun o => by simp [go_sem, h.f1 o], fun o => by simp [go_sem, h.f2 o], cs_other (cs_other (cs_other (cs_other h.r0 (by omega)) (by omega)) (by omega)) (by omega), cs_other (cs_other (cs_other (cs_other h.r1 (by omega)) (by omega)) (by omega)) (by omega), cs_other (cs_other (cs_other (cs_other h.r2 (by omega)) (by omega)) (by omega)) (by omega), cs_other (cs_other (cs_other (cs_other h.r3 (by omega)) (by omega)) (by omega)) (by omega), cs_other (cs_other (cs_other (cs_other h.r4 (by omega)) (by omega)) (by omega)) (by omega), cs_other (cs_other (cs_other (cs_other h.r5 (by omega)) (by omega)) (by omega)) (by omega), cs_other (cs_other (cs_other (cs_other h.r6 (by omega)) (by omega)) (by omega)) (by omega), cs_other (cs_other (cs_other (cs_other h.r7 (by omega)) (by omega)) (by omega)) (by omega), fun o => by simp [go_sem, h.fr o], ((((h.bel.setCell (by show w.heap.size ≤ G2; omega) _).setCell (by show w.heap.size ≤ G2; omega) _).setCell (by show w.heap.size ≤ G2; omega) _).setCell (by show w.heap.size ≤ G2; omega) _)⟩

end Go.Proofs.YtdgonpbponnnaaaGreatDoor

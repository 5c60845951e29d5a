/- Marks: the laws' markIntS, heldIntS, markBig and heldBig write marks into a row of the law's own, and find them there. No condition beyond those typed. -/
import Derived.Test.YtdgonpbponnnaaaGreatDoorSgs
namespace Go.Proofs.YtdgonpbponnnaaaGreatDoor
open Go.RowKit
set_option linter.unusedVariables false
set_option maxRecDepth 100000
set_option linter.unusedSimpArgs false

def marks (k : Int) (n : Nat) : List Int := (List.range n).map (fun (i : Nat) => k + (i : Int))
theorem marks_len (k : Int) (n : Nat) : (marks k n).length = n := by simp [marks]
theorem marks_get (k : Int) (n i : Nat) (h : i < n) : (marks k n).getD i 0 = k + (i : Int) := by simp [marks, h]

/-- The slice at a is the law's own, at a block from lo to below hi. -/
def Own2 (lo hi : Nat) (w : World) (a : Option Addr) (zs : List Int) : Prop :=
  zs = [] ∨ ∃ b cur, a = some ⟨b, 0, none⟩ ∧ lo ≤ b ∧ b < hi ∧ w.heap[b]? = some (.cells cur 3 (0, 0)) ∧ ∀ i, i < zs.length → cur[i]? = some (.int .i64 (zs.getD i 0))
theorem Own.two {lo : Nat} {w : World} {a : Option Addr} {zs : List Int} (h : Own lo w a zs) : Own2 lo w.heap.size w a zs := by
  rcases h with h | ⟨b, cur, rfl, h1, hg, hc⟩
  · exact .inl h
  · exact .inr ⟨b, cur, rfl, h1, (Array.getElem?_eq_some_iff.1 hg).1, hg, hc⟩
theorem Own2.own {lo hi : Nat} {w : World} {a : Option Addr} {zs : List Int} (h : Own2 lo hi w a zs) : Own lo w a zs := by
  rcases h with h | ⟨b, cur, rfl, h1, _, hg, hc⟩
  · exact .inl h
  · exact .inr ⟨b, cur, rfl, h1, hg, hc⟩
theorem Own2.sl {lo hi : Nat} {w : World} {a : Option Addr} {zs : List Int} (h : Own2 lo hi w a zs) : Sl w a zs := h.own.sl
theorem Own2.later {lo hi : Nat} {w w' : World} {a : Option Addr} {zs : List Int} (h : Own2 lo hi w a zs) (hb : Below w.heap.size w w') : Own2 lo hi w' a zs := by
  rcases h with h | ⟨b, cur, rfl, h1, h2, hg, hc⟩
  · exact .inl h
  · exact .inr ⟨b, cur, rfl, h1, h2, by rw [hb.block b (Array.getElem?_eq_some_iff.1 hg).1]; exact hg, hc⟩

/-- From w to w' only blocks from lo to below hi, and new ones, may have turned. -/
structure But (lo hi : Nat) (w w' : World) : Prop where
  os : w'.os = w.os
  tape : w'.tape = w.tape
  output : w'.output = w.output
  size : w.heap.size ≤ w'.heap.size
  block : ∀ k, k < w.heap.size → (k < lo ∨ hi ≤ k) → w'.heap[k]? = w.heap[k]?
theorem But.refl (lo hi : Nat) (w : World) : But lo hi w w := ⟨rfl, rfl, rfl, Nat.le_refl _, fun _ _ _ => rfl⟩
theorem But.trans {lo hi : Nat} {a b c : World} (h : But lo hi a b) (k : But lo hi b c) : But lo hi a c :=
  ⟨k.os.trans h.os, k.tape.trans h.tape, k.output.trans h.output, Nat.le_trans h.size k.size, fun i hi' hj => (k.block i (by have := h.size; omega) hj).trans (h.block i hi' hj)⟩
theorem But.of_below {lo hi : Nat} {w w' : World} (h : Below w.heap.size w w') : But lo hi w w' := ⟨h.os, h.tape, h.output, h.size, fun k hk _ => h.block k hk⟩
theorem But.set {lo hi : Nat} {w w' : World} (h : But lo hi w w') {p : Addr} (h1 : lo ≤ p.block) (h2 : p.block < hi) (v : Value) : But lo hi w (w'.setCell p v) :=
  h.trans ⟨rfl, rfl, rfl, by simp [World.setCell], fun k _ hj => Below.heap_setCell _ _ _ _ (by omega)⟩
theorem But.below {lo hi B : Nat} {a w w' : World} (h : But lo hi w w') (hb : Below B a w) (hB : B ≤ lo) (hs : B ≤ w.heap.size) : Below B a w' :=
  ⟨h.os.trans hb.os, h.tape.trans hb.tape, h.output.trans hb.output, Nat.le_trans hb.size h.size, fun k hk => (h.block k (by omega) (by omega)).trans (hb.block k hk)⟩
theorem But.cell {lo hi : Nat} {w w' : World} (h : But lo hi w w') {b o : Nat} {v : Value} (hc : w.cell? ⟨b, o, none⟩ = some v) (hb : b < lo ∨ hi ≤ b) : w'.cell? ⟨b, o, none⟩ = some v := by
  rw [← hc]
  exact World.cell?_of_block (w := w) (h.block b (World.block_lt_of_cell? _ _ hc) hb)
theorem Own2.but {lo hi lo' hi' : Nat} {w w' : World} {a : Option Addr} {zs : List Int} (h : Own2 lo hi w a zs) (hb : But lo' hi' w w') (hd : hi ≤ lo' ∨ hi' ≤ lo) : Own2 lo hi w' a zs := by
  rcases h with h | ⟨b, cur, rfl, h1, h2, hg, hc⟩
  · exact .inl h
  · exact .inr ⟨b, cur, rfl, h1, h2, by rw [hb.block b (Array.getElem?_eq_some_iff.1 hg).1 (by omega)]; exact hg, hc⟩
theorem Sl.but {lo hi : Nat} {w w0 w' : World} {a : Option Addr} {xs : List Int} (h : Sl w0 a xs) (h0 : Below w0.heap.size w0 w) (hb : But lo hi w w') (hd : w0.heap.size ≤ lo) : Sl w' a xs := by
  have := hb.below h0 hd h0.size
  exact h.later (Nat.le_refl _) this

end Go.Proofs.YtdgonpbponnnaaaGreatDoor

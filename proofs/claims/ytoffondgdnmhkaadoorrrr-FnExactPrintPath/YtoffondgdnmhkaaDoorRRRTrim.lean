/- Noughts at the end taken off: the program's trimLimbs, withSign and fitting, the specification's l1Cut, l1Make and l1Fits. No condition beyond those typed. -/
import Derived.Test.YtoffondgdnmhkaaDoorRRREq
import Derived.Test.YtoffondgdnmhkaaDoorRRRNum
import Derived.Laws.AppendOwnNone
namespace Go.Proofs.YtoffondgdnmhkaaDoorRRR
open Go.RowKit
set_option linter.unusedVariables false
set_option maxRecDepth 100000
set_option linter.unusedSimpArgs false

/-- The slice at a is the call's own (its block is base or later), may be written, and its elements are zs. -/
def Own (base : Nat) (w : World) (a : Option Addr) (zs : List Int) : Prop :=
  zs = [] ∨ ∃ b cur, a = some ⟨b, 0, none⟩ ∧ base ≤ b ∧ w.heap[b]? = some (.cells cur 3 (0, 0)) ∧ ∀ i, i < zs.length → cur[i]? = some (.int .i64 (zs.getD i 0))

theorem Own.of_owns {w : World} {base g n c : Nat} {zs : List Int} (h : w.ownsRow base 3 1 (.slice (some ⟨g, 0, none⟩) n c) n (zs.map (Value.int .i64))) (hn : zs.length = n) : Own base w (some ⟨g, 0, none⟩) zs := by
  rcases h.2 with ⟨h', _⟩ | ⟨g', cap', cur, h', hb, hg, h1, h2, h3, htake⟩
  · simp at h'
  · simp only [Value.slice.injEq, Option.some.injEq, Addr.mk.injEq, and_true, true_and] at h'
    obtain ⟨rfl, rfl⟩ := h'
    refine .inr ⟨g, cur, rfl, hb, hg, fun i hi => ?_⟩
    have e : cur.toList[i]? = (cur.toList.take (n * 1))[i]? := by rw [List.getElem?_take, if_pos (by omega)]
    rw [htake] at e
    have e2 : cur[i]? = cur.toList[i]? := by simp
    rw [e2, e]
    simp [hi]
theorem Own.sl {base : Nat} {w : World} {a : Option Addr} {zs : List Int} (h : Own base w a zs) : Sl w a zs := by
  rcases h with h | ⟨b, cur, rfl, hb, hg, hc⟩
  · exact .inl h
  · refine .inr ⟨b, 0, rfl, (Array.getElem?_eq_some_iff.1 hg).1, fun i hi => ?_⟩
    rw [Nat.zero_add, cell_of_row w b i cur 3 (0, 0) hg]
    exact hc i hi
theorem Own.later {base : Nat} {w w' : World} {a : Option Addr} {zs : List Int} (h : Own base w a zs) (hb : Below w.heap.size w w') : Own base w' a zs := by
  rcases h with h | ⟨b, cur, rfl, h1, hg, hc⟩
  · exact .inl h
  · exact .inr ⟨b, cur, rfl, h1, by rw [hb.block b (Array.getElem?_eq_some_iff.1 hg).1]; exact hg, hc⟩
theorem Own.mono {base base' : Nat} {w : World} {a : Option Addr} {zs : List Int} (h : Own base w a zs) (hb : base' ≤ base) : Own base' w a zs := by
  rcases h with h | ⟨b, cur, rfl, h1, hg, hc⟩
  · exact .inl h
  · exact .inr ⟨b, cur, rfl, by omega, hg, hc⟩
theorem Own.take {base : Nat} {w : World} {a : Option Addr} {zs : List Int} (h : Own base w a zs) (k : Nat) : Own base w a (zs.take k) := by
  rcases h with h | ⟨b, cur, rfl, h1, hg, hc⟩
  · exact .inl (by rw [h]; simp)
  · refine .inr ⟨b, cur, rfl, h1, hg, fun i hi => ?_⟩
    rw [List.length_take] at hi
    have e : (zs.take k).getD i 0 = zs.getD i 0 := by simp only [List.getD_eq_getElem?_getD, List.getElem?_take]; rw [if_pos (by omega)]
    rw [e]; exact hc i (by omega)
theorem Own.nil (base : Nat) (w : World) (a : Option Addr) : Own base w a [] := .inl rfl
theorem Sl.take {w : World} {a : Option Addr} {zs : List Int} (h : Sl w a zs) (k : Nat) : Sl w a (zs.take k) := by
  rcases h with h | ⟨b, off, rfl, h1, hc⟩
  · exact .inl (by rw [h]; simp)
  · refine .inr ⟨b, off, rfl, h1, fun i hi => ?_⟩
    rw [List.length_take] at hi
    have e : (zs.take k).getD i 0 = zs.getD i 0 := by simp only [List.getD_eq_getElem?_getD, List.getElem?_take]; rw [if_pos (by omega)]
    rw [e]; exact hc i (by omega)
theorem Sl.nil (w : World) (a : Option Addr) : Sl w a [] := .inl rfl

/-- What may stand as a slice argument: its address leads to xs; where it has none it is nil. -/
structure Arg (w : World) (a : Option Addr) (n c : Nat) (xs : List Int) : Prop where
  sl : Sl w a xs
  len : xs.length = n
  cap : n ≤ c
  top : c ≤ maxLen
  addr : (a = none ∧ c = 0) ∨ ∃ b off, a = some ⟨b, off, none⟩
theorem Arg.later {w w' : World} {a : Option Addr} {n c : Nat} {xs : List Int} (h : Arg w a n c xs) (hb : Below w.heap.size w w') : Arg w' a n c xs :=
  ⟨h.sl.later (Nat.le_refl _) hb, h.len, h.cap, h.top, h.addr⟩
theorem Arg.none (w : World) : Arg w none 0 0 [] := ⟨.inl rfl, rfl, Nat.le_refl _, Nat.zero_le _, .inl ⟨rfl, rfl⟩⟩

theorem owns_shape {w : World} {base n : Nat} {v : Value} {zs : List Int} (h : w.ownsRow base 3 1 v n (zs.map (Value.int .i64))) (hn : zs.length = n) : ∃ a c, v = .slice a n c ∧ Own base w a zs ∧ Arg w a n c zs := by
  have h0 := h
  rcases h.2 with ⟨rfl, h'⟩ | ⟨g', cap', cur, rfl, hb, hg, h1, h2, h3, htake⟩
  · subst h'
    obtain rfl := List.length_eq_zero_iff.1 hn
    exact ⟨none, 0, rfl, .inl rfl, Arg.none _⟩
  · exact ⟨_, _, rfl, Own.of_owns h0 hn, ⟨(Own.of_owns h0 hn).sl, hn, h1, h2, .inr ⟨_, _, rfl⟩⟩⟩
theorem owns_empty (w : World) : (w.alloc (.cells #[] 3)).ownsRow w.heap.size 3 1 (.slice (some ⟨w.heap.size, 0, none⟩) 0 0) 0 [] := by
  refine ⟨rfl, .inr ⟨w.heap.size, 0, #[], rfl, Nat.le_refl _, ?_, Nat.le_refl _, Nat.zero_le _, rfl, rfl⟩⟩
  show (w.heap.push _)[w.heap.size]? = _
  simp
def lenOf : Value → Nat | .slice _ k _ => k | _ => 0
theorem cells_at {w : World} {b off k : Nat} {xs : List Int} (hc : ∀ i, i < k → w.cell? ⟨b, off + i, none⟩ = some (.int .i64 (xs.getD i 0))) (hk : k ≤ xs.length) :
    ∀ j u, ((xs.take k).map (Value.int .i64))[j]? = some u → w.cell? ((⟨b, off, none⟩ : Addr).add j) = some u := by
  intro j u hj
  simp only [List.getElem?_map, List.getElem?_take] at hj
  by_cases h : j < k
  · rw [if_pos h, List.getElem?_eq_getElem (by omega)] at hj
    simp only [Option.map_some, Option.some.injEq] at hj
    have := hc j h
    simp only [List.getD_eq_getElem?_getD, List.getElem?_eq_getElem (show j < xs.length by omega), Option.getD_some] at this
    rw [← hj]
    by_cases h0 : j = 0
    · subst h0; simpa [Addr.add] using this
    · simpa [Addr.add, h0] using this
  · rw [if_neg h] at hj; simp at hj
theorem one_cells (zs : List Int) : ∀ u ∈ zs.map (Value.int .i64), u.oneCell' = true := by
  intro u hu
  obtain ⟨x, _, rfl⟩ := List.mem_map.1 hu
  rfl
theorem below_alloc_grown {w w1 : World} {o : Obj} {r : Option Nat} (hg : (w.alloc o).grownBy w1 r) (hr : ∀ k, r = some k → w.heap.size ≤ k) : Below w.heap.size w w1 :=
  ((Below.refl _ _).alloc (Nat.le_refl _) o).grown hg (by simp) hr

def sgn (g : Bool) (zs : List Int) : Bool := g && decide (0 < zs.length)
theorem sgn_false (zs : List Int) : sgn false zs = false := rfl
theorem sgn_nil (g : Bool) : sgn g [] = false := by cases g <;> rfl
theorem sgn_cons {g : Bool} {zs : List Int} (h : 0 < zs.length) : sgn g zs = g := by cases g <;> simp [sgn, h]

end Go.Proofs.YtoffondgdnmhkaaDoorRRR

/- The laws' copying functions toIntS and toBig answer a copy in new memory, and change nothing that was there. No condition beyond those typed. -/
import Derived.Test.YtdgonpbponnnaaaGreatDoorAid
namespace Go.Proofs.YtdgonpbponnnaaaGreatDoor
open Go.RowKit
set_option linter.unusedVariables false
set_option maxRecDepth 100000
set_option linter.unusedSimpArgs false

theorem Tryz.info3 : (Tryz.prog.info? 3).map (fun i => (i.zero, i.size, i.bytes)) = some (some (.int .i64 0), 1, 8) := by kernel_rfl

/-- what the loop of a copy has made after k rounds -/
def cp (xs : List Int) (k : Nat) : List Int := xs.take k ++ List.replicate (xs.length - k) 0
theorem cp_zero (xs : List Int) : cp xs 0 = List.replicate xs.length 0 := by simp [cp]
theorem cp_all (xs : List Int) : cp xs xs.length = xs := by simp [cp]
theorem cp_len (xs : List Int) (k : Nat) (h : k ≤ xs.length) : (cp xs k).length = xs.length := by simp [cp]; omega
theorem cp_set (xs : List Int) (k : Nat) (h : k < xs.length) : (cp xs k).set k (xs.getD k 0) = cp xs (k + 1) := by
  apply List.ext_getElem?
  intro i
  simp only [cp, List.getElem?_set, List.getElem?_append, List.getElem?_take, List.getElem?_replicate, List.length_append, List.length_take, List.length_replicate, List.getD_eq_getElem?_getD]
  by_cases h1 : k = i
  · subst h1
    rw [if_pos rfl, if_pos (by omega), if_pos (by omega), if_pos (by omega), List.getElem?_eq_getElem h]
    rfl
  · rw [if_neg h1]
    by_cases h3 : i < k
    · rw [if_pos (show i < min k xs.length by omega), if_pos h3, if_pos (show i < min (k + 1) xs.length by omega), if_pos (show i < k + 1 by omega)]
    · rw [if_neg (show ¬ i < min k xs.length by omega), if_neg (show ¬ i < min (k + 1) xs.length by omega)]
      by_cases h4 : i < xs.length
      · rw [if_pos (show i - min k xs.length < xs.length - k by omega), if_pos (show i - min (k + 1) xs.length < xs.length - (k + 1) by omega)]
      · rw [if_neg (show ¬ i - min k xs.length < xs.length - k by omega), if_neg (show ¬ i - min (k + 1) xs.length < xs.length - (k + 1) by omega)]

theorem made_ints (n : Nat) : (madeCells #[Value.int .i64 0] n).toList = (List.replicate n 0).map (Value.int .i64) := by
  apply List.ext_getElem?
  intro i
  simp only [madeCells]
  by_cases h : i < n <;> simp [h, Nat.mod_one]

theorem Sl.of_owns {w : World} {base g n c : Nat} {xs : List Int} (h : w.ownsRow base 3 1 (.slice (some ⟨g, 0, none⟩) n c) n (xs.map (Value.int .i64))) (hn : xs.length = n) : Sl w (some ⟨g, 0, none⟩) xs := by
  refine .inr ⟨g, 0, rfl, ?_, fun i hi => ?_⟩
  · rcases h.2 with ⟨h', _⟩ | ⟨g', cap', cur, h', _, hg, _⟩
    · simp at h'
    · simp only [Value.slice.injEq, Option.some.injEq, Addr.mk.injEq, and_true, true_and] at h'
      obtain ⟨rfl, rfl⟩ := h'
      exact (Array.getElem?_eq_some_iff.1 hg).1
  · rw [Nat.zero_add, h.cellAt i (by omega)]
    simp [hi]

theorem bcell {W w1 : World} (hb : Below W.heap.size W w1) : (∀ b o, b < W.heap.size → w1.cell? ⟨b, o, none⟩ = W.cell? ⟨b, o, none⟩) ∧ (∀ b o, b < W.heap.size → w1.frozen? ⟨b, o, none⟩ = W.frozen? ⟨b, o, none⟩) :=
  ⟨fun b o h => hb.cell (p := ⟨b, o, none⟩) h, fun b o h => hb.frozen (p := ⟨b, o, none⟩) h⟩

theorem owns_mono {w : World} {base base' : Nat} {e : TypeId} {size : Nat} {v : Value} {n : Nat} {xs : List Value} (h : w.ownsRow base e size v n xs) (hb : base' ≤ base) : w.ownsRow base' e size v n xs := by
  obtain ⟨h1, h2⟩ := h
  refine ⟨h1, ?_⟩
  rcases h2 with h2 | ⟨g, cap, cur, hv, hg, r⟩
  · exact Or.inl h2
  · exact Or.inr ⟨g, cap, cur, hv, by omega, r⟩

end Go.Proofs.YtdgonpbponnnaaaGreatDoor

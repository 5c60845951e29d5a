/- SplitWay of the specification. No condition beyond those typed. Written by mksplit9.py. -/
import Derived.Test.YteconjkjpalomaaBox9
namespace Go.Proofs.Yteconjkjpalomaa
open Go.RowKit
set_option linter.unusedVariables false
set_option maxRecDepth 100000
set_option linter.unusedSimpArgs false

theorem sl_news {w : World} {b off : Nat} {l : List (Int × Int)} (hc : ∀ i (h : i < l.length), w.cell? ⟨b, off + i * 2, none⟩ = some (.int .i64 l[i].1) ∧ w.cell? ⟨b, off + i * 2 + 1, none⟩ = some (.int .i64 l[i].2)) (s m : Nat) (h : s + m ≤ l.length) :
    ∀ j u, (flatP ((l.drop s).take m))[j]? = some u → w.cell? ((⟨b, off + s * 2, none⟩ : Addr).add j) = some u := by
  intro j u hu
  have hl : (flatP ((l.drop s).take m)).length = m * 2 := by
    have : ∀ k : List (Int × Int), (flatP k).length = k.length * 2 := by
      intro k
      induction k with
      | nil => rfl
      | cons p k ih => rw [show flatP (p :: k) = .int .i64 p.1 :: .int .i64 p.2 :: flatP k by simp [flatP]]; simp [ih]; omega
    rw [this]; simp; omega
  have hj : j < m * 2 := by
    rcases Nat.lt_or_ge j (m * 2) with h1 | h1
    · exact h1
    · rw [List.getElem?_eq_none (by omega)] at hu; cases hu
  have hi : j / 2 < ((l.drop s).take m).length := by simp; omega
  have f := flatP_at ((l.drop s).take m) (j / 2) hi
  have e : ((l.drop s).take m)[j / 2] = l[s + j / 2]'(by simp at hi; omega) := by simp
  rw [e] at f
  have k := hc (s + j / 2) (by simp at hi; omega)
  have ea : (⟨b, off + s * 2, none⟩ : Addr).add j = ⟨b, off + s * 2 + j, none⟩ := by
    unfold Addr.add
    split
    · rename_i h0; subst h0; rfl
    · rfl
  rw [ea]
  rcases Nat.mod_two_eq_zero_or_one j with h2 | h2
  · have ej : j = j / 2 * 2 := by omega
    have e1 : off + s * 2 + j = off + (s + j / 2) * 2 := by omega
    rw [ej] at hu
    rw [f.1] at hu
    rw [e1, k.1]
    exact hu
  · have ej : j = j / 2 * 2 + 1 := by omega
    have e1 : off + s * 2 + j = off + (s + j / 2) * 2 + 1 := by omega
    rw [ej] at hu
    rw [f.2] at hu
    rw [e1, k.2]
    exact hu
theorem flat_one (k : List (Int × Int)) : ∀ u ∈ flatP k, u.oneCell' = true := by
  intro u hu
  simp only [flatP, List.mem_flatMap, List.mem_cons, List.not_mem_nil, or_false] at hu
  obtain ⟨p, _, h | h⟩ := hu <;> rw [h] <;> rfl
theorem flat_len (k : List (Int × Int)) : (flatP k).length = k.length * 2 := by
  induction k with
  | nil => rfl
  | cons p k ih => rw [show flatP (p :: k) = .int .i64 p.1 :: .int .i64 p.2 :: flatP k by simp [flatP]]; simp [ih]; omega
theorem grow_below {B : Nat} {W w' w2 : World} {v : Value} (hb : Below B W w') (hB : B ≤ w'.heap.size) (hv : ∀ k, v.ownBlock = some k → B ≤ k) (hg : w'.grownBy w2 v.ownBlock) : Below B W w2 := hb.grown hg hB hv
theorem owns_low {w w' : World} {B B2 g n c size : Nat} {e : TypeId} {M : List Value} (h : w.ownsRow B e size (.slice (some ⟨g, 0, none⟩) n c) n M) (hb : Below B2 w w') (hg : g < B2) : w'.ownsRow B e size (.slice (some ⟨g, 0, none⟩) n c) n M := by
  refine ⟨h.1, ?_⟩
  rcases h.2 with ⟨h', _⟩ | ⟨g', cap, cur, hv, h1, hgg, r⟩
  · simp at h'
  · have e : g' = g := by simp only [Value.slice.injEq, Option.some.injEq, Addr.mk.injEq, and_true, true_and] at hv; exact hv.1.symm
    subst e
    refine .inr ⟨g', cap, cur, hv, h1, ?_, r⟩
    rw [hb.block g' hg]
    exact hgg
theorem own_at (g n c : Nat) : ∀ k, (Value.slice (some ⟨g, 0, none⟩) n c).ownBlock = some k → k = g := by intro k h; simp [Value.ownBlock] at h; exact h.symm
def spB (l : List (Int × Int)) (x y : Int) : Bool := wayB l && (decide (0 ≤ x) && (decide (y < l.length) && (decide (x ≤ y) && (decide (x + 2 ≤ y) && !(x == 0 && y == (l.length : Int) - 1)))))
def sp1 (l : List (Int × Int)) (x y : Int) : List (Int × Int) := if spB l x y then (l.drop x.toNat).take (y.toNat + 1 - x.toNat) else []
def sp2 (l : List (Int × Int)) (x y : Int) : List (Int × Int) := if spB l x y then l.drop y.toNat ++ l.take (x.toNat + 1) else []
theorem sp_no {l : List (Int × Int)} {x y : Int} (h : spB l x y = false) : sp1 l x y = [] ∧ sp2 l x y = [] := by unfold sp1 sp2; rw [h]; exact ⟨rfl, rfl⟩
theorem empty_row (w : World) (B : Nat) (h : B ≤ w.heap.size) : (w.alloc (.cells #[] 25)).ownsRow B 25 2 (.slice (some ⟨w.heap.size, 0, none⟩) 0 0) 0 (flatP []) := by
  refine ⟨rfl, .inr ⟨w.heap.size, 0, #[], rfl, h, ?_, Nat.le_refl _, by unfold maxLen; omega, rfl, by simp [flatP]⟩⟩
  show (w.heap.push _)[w.heap.size]? = _
  simp
end Go.Proofs.Yteconjkjpalomaa

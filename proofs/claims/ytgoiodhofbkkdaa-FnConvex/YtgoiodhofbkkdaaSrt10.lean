/- Points in order, each once: plain mathematics. No condition beyond those typed. -/
import Derived.Test.YtgoiodhofbkkdaaSp8
namespace Go.Proofs.Ytgoiodhofbkkdaa
open Go.RowKit
set_option linter.unusedVariables false
set_option maxRecDepth 100000
set_option linter.unusedSimpArgs false

/-- The first one is less. -/
def ltP (a b : Int × Int) : Bool := decide (a.1 < b.1) || (decide (a.1 = b.1) && decide (a.2 < b.2))
theorem ltP_iff (a b : Int × Int) : ltP a b = true ↔ a.1 < b.1 ∨ (a.1 = b.1 ∧ a.2 < b.2) := by unfold ltP; simp
theorem ltP_irr (a : Int × Int) : ltP a a = false := by
  cases h : ltP a a
  · rfl
  · rw [ltP_iff] at h; omega
theorem ltP_trans {a b c : Int × Int} (h : ltP a b = true) (k : ltP b c = true) : ltP a c = true := by
  rw [ltP_iff] at h k ⊢
  omega
theorem ltP_tri {a b : Int × Int} (h : ltP a b = false) (hne : a ≠ b) : ltP b a = true := by
  have h' : ¬ (a.1 < b.1 ∨ (a.1 = b.1 ∧ a.2 < b.2)) := by rw [← ltP_iff, h]; simp
  rw [ltP_iff]
  have : ¬ (a.1 = b.1 ∧ a.2 = b.2) := fun e => hne (Prod.ext e.1 e.2)
  omega
/-- A point is put where it belongs, unless it is there. -/
def insP : List (Int × Int) → Int × Int → List (Int × Int)
  | [], p => [p]
  | q :: r, p => if ltP q p then q :: insP r p else if q = p then q :: r else p :: q :: r
def sortP (l : List (Int × Int)) : List (Int × Int) := l.foldl insP []
/-- They rise. -/
def Rise (l : List (Int × Int)) : Prop := l.Pairwise (fun a b => ltP a b = true)
theorem mem_ins {p x : Int × Int} : ∀ {l : List (Int × Int)}, x ∈ insP l p ↔ x = p ∨ x ∈ l
  | [] => by simp [insP]
  | q :: r => by
    unfold insP
    split
    · rw [List.mem_cons, mem_ins, List.mem_cons]
      constructor
      · rintro (h | h | h)
        · exact .inr (.inl h)
        · exact .inl h
        · exact .inr (.inr h)
      · rintro (h | h | h)
        · exact .inr (.inl h)
        · exact .inl h
        · exact .inr (.inr h)
    · split
      · rename_i h1 h2
        subst h2
        simp
      · simp
theorem rise_ins {p : Int × Int} : ∀ {l : List (Int × Int)}, Rise l → Rise (insP l p)
  | [], _ => by simp [insP, Rise]
  | q :: r, h => by
    obtain ⟨h1, h2⟩ := List.pairwise_cons.1 h
    unfold insP
    split
    · rename_i hq
      refine List.pairwise_cons.2 ⟨fun x hx => ?_, rise_ins h2⟩
      rcases mem_ins.1 hx with rfl | hx
      · exact hq
      · exact h1 x hx
    · split
      · exact h
      · rename_i hq hne
        have hp : ltP p q = true := ltP_tri (by simpa using hq) hne
        refine List.pairwise_cons.2 ⟨fun x hx => ?_, h⟩
        rcases List.mem_cons.1 hx with rfl | hx
        · exact hp
        · exact ltP_trans hp (h1 x hx)
theorem fold_mem {x : Int × Int} : ∀ {l m : List (Int × Int)}, x ∈ l.foldl insP m ↔ x ∈ m ∨ x ∈ l
  | [], m => by simp
  | p :: l, m => by
    rw [List.foldl_cons, fold_mem, mem_ins, List.mem_cons]
    constructor
    · rintro ((h | h) | h)
      · exact .inr (.inl h)
      · exact .inl h
      · exact .inr (.inr h)
    · rintro (h | h | h)
      · exact .inl (.inr h)
      · exact .inl (.inl h)
      · exact .inr h
theorem fold_rise : ∀ {l m : List (Int × Int)}, Rise m → Rise (l.foldl insP m)
  | [], m, h => h
  | p :: l, m, h => by rw [List.foldl_cons]; exact fold_rise (rise_ins h)
theorem sortP_mem {x : Int × Int} {l : List (Int × Int)} : x ∈ sortP l ↔ x ∈ l := by unfold sortP; rw [fold_mem]; simp
theorem sortP_rise (l : List (Int × Int)) : Rise (sortP l) := fold_rise (by simp [Rise])
/-- There is one list that rises and has just these. -/
theorem rise_eq : ∀ {l m : List (Int × Int)}, Rise l → Rise m → (∀ x, x ∈ l ↔ x ∈ m) → l = m
  | [], [], _, _, _ => rfl
  | [], q :: m, _, _, h => absurd ((h q).2 (by simp)) (by simp)
  | p :: l, [], _, _, h => absurd ((h p).1 (by simp)) (by simp)
  | p :: l, q :: m, hl, hm, h => by
    obtain ⟨l1, l2⟩ := List.pairwise_cons.1 hl
    obtain ⟨m1, m2⟩ := List.pairwise_cons.1 hm
    have e : p = q := by
      rcases List.mem_cons.1 ((h p).1 (by simp)) with e | hp
      · exact e
      · rcases List.mem_cons.1 ((h q).2 (by simp)) with e | hq
        · exact e.symm
        · have a := m1 p hp
          have b := l1 q hq
          have := ltP_trans a b
          rw [ltP_irr] at this
          cases this
    subst e
    have : l = m := rise_eq l2 m2 (fun x => by
      constructor
      · intro hx
        rcases List.mem_cons.1 ((h x).1 (by simp [hx])) with e | hm'
        · subst e; have := l1 x hx; rw [ltP_irr] at this; cases this
        · exact hm'
      · intro hx
        rcases List.mem_cons.1 ((h x).2 (by simp [hx])) with e | hl'
        · subst e; have := m1 x hx; rw [ltP_irr] at this; cases this
        · exact hl')
    rw [this]
theorem ins_len (p : Int × Int) : ∀ l : List (Int × Int), (insP l p).length ≤ l.length + 1
  | [] => by simp [insP]
  | q :: r => by
    unfold insP
    have := ins_len p r
    split
    · simp; omega
    · split <;> simp
/-- How many are less: where it goes. -/
def posP (l : List (Int × Int)) (p : Int × Int) : Nat := (l.takeWhile (fun q => ltP q p)).length
theorem ins_at (p : Int × Int) : ∀ l : List (Int × Int), insP l p = if posP l p < l.length ∧ l.getD (posP l p) (0, 0) = p then l else l.take (posP l p) ++ p :: l.drop (posP l p)
  | [] => by simp [insP, posP]
  | q :: r => by
    have ih := ins_at p r
    unfold insP posP
    by_cases hq : ltP q p = true
    · rw [if_pos hq]
      simp only [List.takeWhile_cons, hq, if_true, List.length_cons, Nat.add_lt_add_iff_right, List.getD_cons_succ, List.take_succ_cons, List.drop_succ_cons, List.cons_append]
      rw [ih]
      unfold posP
      split <;> rfl
    · rw [if_neg hq]
      have hq' : ltP q p = false := by simpa using hq
      simp only [List.takeWhile_cons, hq', Bool.false_eq_true, if_false, List.length_nil, List.length_cons, Nat.zero_lt_succ, true_and, List.getD_cons_zero, List.take_zero, List.drop_zero, List.nil_append]
end Go.Proofs.Ytgoiodhofbkkdaa

/- Plain mathematics of limbs: the number that a list of limbs tells, noughts at its end taken off, and that a list of limbs without them is told by its number. No condition beyond those typed. -/
import Derived.Test.YtdgonpbponnnaaaGreatDoorGood
namespace Go.Proofs.YtdgonpbponnnaaaGreatDoor
set_option linter.unusedVariables false
set_option maxRecDepth 100000
set_option linter.unusedSimpArgs false

def val : List Int → Int
  | [] => 0
  | x :: xs => x + 65536 * val xs
def okL (xs : List Int) : Prop := ∀ x ∈ xs, 0 ≤ x ∧ x ≤ 65535
def trim : List Int → List Int
  | [] => []
  | x :: xs => if trim xs = [] ∧ x = 0 then [] else x :: trim xs

theorem okL_nil : okL [] := fun x h => by cases h
theorem okL_cons {x : Int} {xs : List Int} : okL (x :: xs) ↔ (0 ≤ x ∧ x ≤ 65535) ∧ okL xs := by simp [okL]
theorem okL_append {xs ys : List Int} (h : okL xs) (k : okL ys) : okL (xs ++ ys) := by
  intro x hx
  rcases List.mem_append.1 hx with hx | hx
  · exact h x hx
  · exact k x hx
theorem okL_one {x : Int} (h0 : 0 ≤ x) (h1 : x ≤ 65535) : okL [x] := by simp [okL, h0, h1]
theorem okL_take {xs : List Int} (h : okL xs) (k : Nat) : okL (xs.take k) := fun x hx => h x (List.mem_of_mem_take hx)
theorem okL_drop {xs : List Int} (h : okL xs) (k : Nat) : okL (xs.drop k) := fun x hx => h x (List.mem_of_mem_drop hx)
theorem okL_get {xs : List Int} (h : okL xs) (k : Nat) : 0 ≤ xs.getD k 0 ∧ xs.getD k 0 ≤ 65535 := by
  by_cases hk : k < xs.length
  · simpa [hk] using h xs[k] (List.getElem_mem hk)
  · simp [hk]

theorem trim_nil : trim [] = [] := rfl
theorem val_trim (xs : List Int) : val (trim xs) = val xs := by
  induction xs with
  | nil => rfl
  | cons x xs ih =>
    unfold trim
    split
    · rename_i h; rw [h.1] at ih; simp only [val] at ih ⊢; omega
    · simp only [val, ih]
theorem okL_trim {xs : List Int} (h : okL xs) : okL (trim xs) := by
  induction xs with
  | nil => exact okL_nil
  | cons x xs ih =>
    rw [okL_cons] at h
    unfold trim
    split
    · exact okL_nil
    · exact okL_cons.2 ⟨h.1, ih h.2⟩
theorem trim_trim (xs : List Int) : trim (trim xs) = trim xs := by
  induction xs with
  | nil => rfl
  | cons x xs ih =>
    by_cases h : trim xs = [] ∧ x = 0
    · have e : trim (x :: xs) = [] := by show (if _ then _ else _) = _; rw [if_pos h]
      rw [e]; rfl
    · have e : trim (x :: xs) = x :: trim xs := by show (if _ then _ else _) = _; rw [if_neg h]
      rw [e]
      show (if trim (trim xs) = [] ∧ x = 0 then [] else x :: trim (trim xs)) = _
      rw [ih, if_neg h]
theorem trim_snoc_zero (xs : List Int) : trim (xs ++ [0]) = trim xs := by
  induction xs with
  | nil => rfl
  | cons x xs ih => show (if trim (xs ++ [0]) = [] ∧ x = 0 then [] else x :: trim (xs ++ [0])) = _; rw [ih]; rfl
theorem trim_snoc_ne (xs : List Int) {x : Int} (h : x ≠ 0) : trim (xs ++ [x]) = xs ++ [x] := by
  induction xs with
  | nil => show (if trim [] = [] ∧ x = 0 then [] else x :: trim []) = _; rw [if_neg (fun k => h k.2)]; rfl
  | cons y ys ih => show (if trim (ys ++ [x]) = [] ∧ y = 0 then [] else y :: trim (ys ++ [x])) = _; rw [ih, if_neg (fun k => by simp at k)]; rfl
theorem trim_len (xs : List Int) : (trim xs).length ≤ xs.length := by
  induction xs with
  | nil => exact Nat.le_refl _
  | cons x xs ih => unfold trim; split <;> simp; omega
theorem take_succ' {xs : List Int} {k : Nat} (h : k < xs.length) : xs.take (k + 1) = xs.take k ++ [xs.getD k 0] := by
  rw [List.take_succ_eq_append_getElem h]; simp [h]

theorem val_nonneg {xs : List Int} (h : okL xs) : 0 ≤ val xs := by
  induction xs with
  | nil => simp [val]
  | cons x xs ih => rw [okL_cons] at h; have := ih h.2; simp only [val]; omega
theorem val_append (xs ys : List Int) : val (xs ++ ys) = val xs + 65536 ^ xs.length * val ys := by
  induction xs with
  | nil => simp [val]
  | cons x xs ih =>
    simp only [List.cons_append, val, ih, List.length_cons, Int.pow_succ]
    rw [Int.mul_add, Int.mul_comm (65536 ^ xs.length) 65536, Int.mul_assoc]
    omega
theorem val_snoc (xs : List Int) (x : Int) : val (xs ++ [x]) = val xs + 65536 ^ xs.length * x := by rw [val_append]; simp [val]
theorem val_lt {xs : List Int} (h : okL xs) : val xs < 65536 ^ xs.length := by
  induction xs with
  | nil => simp [val]
  | cons x xs ih => rw [okL_cons] at h; have := ih h.2; simp only [val, List.length_cons, Int.pow_succ]; omega

/-- A list of limbs without noughts at its end is told by its number. -/
theorem val_inj : ∀ {xs ys : List Int}, okL xs → okL ys → trim xs = xs → trim ys = ys → val xs = val ys → xs = ys := by
  have tl : ∀ {x : Int} {xs : List Int}, trim (x :: xs) = x :: xs → trim xs = xs ∧ (xs = [] → x ≠ 0) := by
    intro x xs h
    have h' : (if trim xs = [] ∧ x = 0 then [] else x :: trim xs) = x :: xs := h
    split at h'
    · cases h'
    · rename_i hne
      have e : trim xs = xs := by simpa using h'
      exact ⟨e, fun he hx => hne ⟨by rw [e, he], hx⟩⟩
  have pos : ∀ {xs : List Int}, okL xs → trim xs = xs → xs ≠ [] → 0 < val xs := by
    intro xs
    induction xs with
    | nil => intro _ _ h; exact absurd rfl h
    | cons x xs ih =>
      intro h ht _
      rw [okL_cons] at h
      obtain ⟨t1, t2⟩ := tl ht
      simp only [val]
      by_cases he : xs = []
      · have := t2 he; subst he; simp only [val]; omega
      · have := ih h.2 t1 he; omega
  intro xs
  induction xs with
  | nil =>
    intro ys h k _ t e
    by_cases hy : ys = []
    · exact hy.symm
    · have := pos k t hy; simp only [val] at e; omega
  | cons x xs ih =>
    intro ys h k t t' e
    cases ys with
    | nil => have := pos h t (by simp); simp only [val] at e this; omega
    | cons y ys =>
      have h1 := okL_cons.1 h
      have k1 := okL_cons.1 k
      simp only [val] at e
      have hxy : x = y := by omega
      have hv : val xs = val ys := by omega
      rw [hxy, ih h1.2 k1.2 (tl t).1 (tl t').1 hv]

theorem val_zero_iff {xs : List Int} (h : okL xs) (t : trim xs = xs) : val xs = 0 ↔ xs = [] := by
  constructor
  · intro e; exact val_inj h okL_nil t rfl (by rw [e]; rfl)
  · intro e; rw [e]; rfl

/-- The limbs zs are those of the number V. -/
structure Nm (zs : List Int) (V : Int) : Prop where
  ok : okL zs
  tr : trim zs = zs
  v : val zs = V
theorem Nm.same {zs zs' : List Int} {V : Int} (h : Nm zs V) (k : Nm zs' V) : zs = zs' := val_inj h.ok k.ok h.tr k.tr (h.v.trans k.v.symm)
theorem Nm.nonneg {zs : List Int} {V : Int} (h : Nm zs V) : 0 ≤ V := by rw [← h.v]; exact val_nonneg h.ok
theorem Nm.trimmed {xs : List Int} (h : okL xs) : Nm (trim xs) (val xs) := ⟨okL_trim h, trim_trim _, val_trim _⟩
theorem Nm.nil_iff {zs : List Int} {V : Int} (h : Nm zs V) : zs = [] ↔ V = 0 := by rw [← h.v]; exact (val_zero_iff h.ok h.tr).symm
theorem Nm.zero : Nm [] 0 := ⟨okL_nil, rfl, rfl⟩

/-- The number with a sign. -/
def sv (g : Bool) (xs : List Int) : Int := if g then - val xs else val xs

/-- What an answer that may be too long looks like. -/
def Ans (P : Bool) (V : Int) (g : Bool) (zs : List Int) (ok : Bool) : Prop :=
  (P = true ∧ ∃ ts, Nm ts V.natAbs ∧ ((ts.length ≤ 40 ∧ ok = true ∧ g = decide (V < 0) ∧ zs = ts) ∨ (40 < ts.length ∧ ok = false ∧ g = false ∧ zs = []))) ∨
  (P = false ∧ ok = false ∧ g = false ∧ zs = [])
theorem Ans.same {P : Bool} {V : Int} {g g' : Bool} {zs zs' : List Int} {ok ok' : Bool} (h : Ans P V g zs ok) (k : Ans P V g' zs' ok') : g = g' ∧ zs = zs' ∧ ok = ok' := by
  rcases h with ⟨h0, ts, ht, h⟩ | ⟨h0, h1, h2, h3⟩
  · rcases k with ⟨k0, ts', kt, k⟩ | ⟨k0, _⟩
    · have e := ht.same kt
      subst e
      rcases h with ⟨a1, a2, a3, a4⟩ | ⟨a1, a2, a3, a4⟩ <;> rcases k with ⟨b1, b2, b3, b4⟩ | ⟨b1, b2, b3, b4⟩
      · exact ⟨a3.trans b3.symm, a4.trans b4.symm, a2.trans b2.symm⟩
      · omega
      · omega
      · exact ⟨a3.trans b3.symm, a4.trans b4.symm, a2.trans b2.symm⟩
    · rw [h0] at k0; cases k0
  · rcases k with ⟨k0, _⟩ | ⟨k0, k1, k2, k3⟩
    · rw [h0] at k0; cases k0
    · exact ⟨h2.trans k2.symm, h3.trans k3.symm, h1.trans k1.symm⟩

theorem okL_of_all {xs : List Int} (h : xs.all limbOk = true) : okL xs := by
  intro x hx
  have := List.all_eq_true.1 h x hx
  simpa [limbOk] using this
/-- What a good number is. -/
theorem good_parts {g : Bool} {xs : List Int} (h : goodB g xs = true) : okL xs ∧ trim xs = xs ∧ xs.length ≤ 40 ∧ (xs = [] → g = false) := by
  unfold goodB at h
  rw [Bool.and_eq_true] at h
  obtain ⟨h1, h2⟩ := h
  by_cases h0 : xs.length = 0
  · have e : xs = [] := List.length_eq_zero_iff.1 h0
    subst e
    exact ⟨okL_nil, rfl, Nat.zero_le _, fun _ => by simpa using h2⟩
  · rw [if_neg h0, Bool.and_eq_true] at h2
    obtain ⟨h3, h4⟩ := h2
    have h5 : xs.length ≤ 40 := of_decide_eq_true h3
    have h6 : xs.getD (xs.length - 1) 0 ≠ 0 := by simpa using h4
    refine ⟨okL_of_all h1, ?_, h5, fun e => absurd (by rw [e]; rfl) h0⟩
    have e : xs = xs.take (xs.length - 1) ++ [xs.getD (xs.length - 1) 0] := by
      rw [← take_succ' (by omega), show xs.length - 1 + 1 = xs.length by omega, List.take_length]
    rw [e]
    exact trim_snoc_ne _ h6
end Go.Proofs.YtdgonpbponnnaaaGreatDoor

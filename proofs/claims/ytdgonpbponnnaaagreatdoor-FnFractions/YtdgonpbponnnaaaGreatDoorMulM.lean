/- Plain mathematics: rows of products of limbs, digit by digit. No condition beyond those typed. -/
import Derived.Test.YtdgonpbponnnaaaGreatDoorOrd
namespace Go.Proofs.YtdgonpbponnnaaaGreatDoor
set_option linter.unusedVariables false
set_option maxRecDepth 100000
set_option linter.unusedSimpArgs false

theorem val_set (qs : List Int) (k : Nat) (d : Int) (h : k < qs.length) : val (qs.set k d) = val qs + 65536 ^ k * (d - qs.getD k 0) := by
  induction qs generalizing k with
  | nil => simp at h
  | cons q qs ih =>
    cases k with
    | zero => simp only [List.set_cons_zero, val]; simp; omega
    | succ k =>
      have h' : k < qs.length := by simpa using h
      simp only [List.set_cons_succ, val, ih k h', Int.pow_succ]
      have e : (q :: qs).getD (k + 1) 0 = qs.getD k 0 := by simp
      rw [e, Int.mul_comm (65536 ^ k) 65536, Int.mul_assoc]
      omega
theorem okL_set {qs : List Int} (h : okL qs) (k : Nat) {d : Int} (h0 : 0 ≤ d) (h1 : d ≤ 65535) : okL (qs.set k d) := by
  intro x hx
  rcases List.mem_or_eq_of_mem_set hx with hx | rfl
  · exact h x hx
  · exact ⟨h0, h1⟩
theorem getD_set_ne {qs : List Int} {k j : Nat} (d : Int) (h : k ≠ j) : (qs.set k d).getD j 0 = qs.getD j 0 := by
  simp only [List.getD_eq_getElem?_getD]
  rw [List.getElem?_set_ne h]
theorem mul_bound {x y : Int} (hx0 : 0 ≤ x) (hx1 : x ≤ 65535) (hy0 : 0 ≤ y) (hy1 : y ≤ 65535) : 0 ≤ x * y ∧ x * y ≤ 4294836225 := by
  refine ⟨Int.mul_nonneg hx0 hy0, ?_⟩
  have h1 : x * y ≤ 65535 * y := Int.mul_le_mul_of_nonneg_right hx1 hy0
  omega

structure MulIn (ps qs : List Int) (i j : Nat) (x c : Int) (ys : List Int) (L : Nat) : Prop where
  len : qs.length = L
  ok : okL qs
  c0 : 0 ≤ c
  c1 : c ≤ 65535
  v : val qs + 65536 ^ (i + j) * c = val ps + x * 65536 ^ i * val (ys.take j)
  same : ∀ k, i + j ≤ k → qs.getD k 0 = ps.getD k 0
theorem MulIn.start {ps : List Int} {i : Nat} {x : Int} {ys : List Int} {L : Nat} (hl : ps.length = L) (ho : okL ps) : MulIn ps ps i 0 x 0 ys L :=
  ⟨hl, ho, by omega, by omega, by simp [val], fun _ _ => rfl⟩
theorem MulIn.step {ps qs : List Int} {i j : Nat} {x c : Int} {ys : List Int} {L : Nat} (h : MulIn ps qs i j x c ys L) (hL : i + j < L) (hx0 : 0 ≤ x) (hx1 : x ≤ 65535) (oy : okL ys) (t : Int) (ht : t = c + (qs.getD (i + j) 0 + x * ys.getD j 0)) :
    MulIn ps (qs.set (i + j) (t % 65536)) i (j + 1) x (t / 65536) ys L := by
  have hy := okL_get oy j
  have hq := okL_get h.ok (i + j)
  have hxy := mul_bound hx0 hx1 hy.1 hy.2
  have c0 := h.c0
  have c1 := h.c1
  have t0 : 0 ≤ t := by omega
  have t1 : t ≤ 4294967295 := by omega
  refine ⟨by simp [h.len], okL_set h.ok _ (by omega) (by omega), by omega, by omega, ?_, fun k hk => ?_⟩
  · rw [val_set _ _ _ (by rw [h.len]; exact hL), val_take_succ, Int.mul_add, ← Int.mul_assoc, Int.mul_assoc x (65536 ^ i) (65536 ^ j), ← Int.pow_add]
    have e := h.v
    rw [show i + (j + 1) = i + j + 1 by omega, Int.pow_succ]
    generalize (65536 : Int) ^ (i + j) = P at *
    have e1 : P * 65536 * (t / 65536) = P * (65536 * (t / 65536)) := by rw [Int.mul_assoc]
    have e2 : P * (t % 65536 - qs.getD (i + j) 0) + P * (65536 * (t / 65536)) = P * (t - qs.getD (i + j) 0) := by
      rw [← Int.mul_add]; congr 1; omega
    have e3 : P * (t - qs.getD (i + j) 0) = P * c + P * (x * ys.getD j 0) := by
      rw [← Int.mul_add]; congr 1; omega
    have e4 : x * P * ys.getD j 0 = P * (x * ys.getD j 0) := by rw [Int.mul_comm x P, Int.mul_assoc]
    omega
  · rw [getD_set_ne _ (by omega)]
    exact h.same k (by omega)

structure MulOut (ps xs ys : List Int) (i L : Nat) : Prop where
  len : ps.length = L
  ok : okL ps
  v : val ps = val (xs.take i) * val ys
  z : ∀ k, i + ys.length ≤ k → ps.getD k 0 = 0
theorem MulOut.start (xs ys : List Int) (L : Nat) : MulOut (List.replicate L 0) xs ys 0 L := by
  have hv : ∀ n, val (List.replicate n 0) = 0 := by
    intro n
    induction n with
    | zero => rfl
    | succ n ih => simp only [List.replicate_succ, val, ih]; omega
  refine ⟨by simp, fun x hx => by rw [List.eq_of_mem_replicate hx]; omega, by rw [hv]; simp [val], fun k _ => ?_⟩
  simp only [List.getD_eq_getElem?_getD, List.getElem?_replicate]
  split <;> rfl
theorem mul_next (a b x P Y : Int) (h : b = a * Y + x * P * Y) : b = (a + P * x) * Y := by rw [h, Int.add_mul, Int.mul_comm x P]
theorem MulOut.next {ps qs xs ys : List Int} {i L : Nat} {c : Int} (h : MulOut ps xs ys i L) (k : MulIn ps qs i ys.length (xs.getD i 0) c ys L) (hL : i + ys.length < L) : MulOut (qs.set (i + ys.length) c) xs ys (i + 1) L := by
  refine ⟨by simp [k.len], okL_set k.ok _ k.c0 k.c1, ?_, fun q hq => ?_⟩
  · rw [val_set _ _ _ (by rw [k.len]; exact hL), val_take_succ, k.same _ (Nat.le_refl _), h.z _ (Nat.le_refl _)]
    have e := k.v
    rw [List.take_length] at e
    refine mul_next _ _ _ _ _ ?_
    rw [← h.v]
    have e2 : c - 0 = c := by omega
    rw [e2]
    exact e
  · rw [getD_set_ne _ (by omega), k.same q (by omega)]
    exact h.z q (by omega)
theorem MulOut.nextS {ps qs xs ys : List Int} {i j L : Nat} (h : MulOut ps xs ys i L) (k : MulIn ps qs i j (xs.getD i 0) 0 ys L) (h1 : ys.length ≤ j) (h2 : j ≤ ys.length + 1) : MulOut qs xs ys (i + 1) L := by
  refine ⟨k.len, k.ok, ?_, fun q hq => ?_⟩
  · rw [val_take_succ]
    have e := k.v
    rw [List.take_of_length_le h1] at e
    refine mul_next _ _ _ _ _ ?_
    rw [← h.v]
    simpa using e
  · rw [k.same q (by omega)]
    exact h.z q (by omega)
end Go.Proofs.YtdgonpbponnnaaaGreatDoor

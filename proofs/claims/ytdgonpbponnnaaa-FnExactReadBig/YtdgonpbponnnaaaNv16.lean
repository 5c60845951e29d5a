/- Digits read one by one: plain facts. No condition beyond those typed. Written by mkrb16.py. -/
import Derived.Test.YtdgonpbponnnaaaDg16
namespace Go.Proofs.Ytdgonpbponnnaaa
open Go.RowKit
set_option linter.unusedVariables false
set_option maxRecDepth 100000
set_option linter.unusedSimpArgs false

/-- Digits read on from n: none where one is no digit or the number comes beyond most. -/
def nv (most : Nat) : Nat → List UInt8 → Option Nat
  | n, [] => some n
  | n, c :: cs => if c.toNat < 48 ∨ 57 < c.toNat then none else if most < 10 * n + (c.toNat - 48) then none else nv most (10 * n + (c.toNat - 48)) cs
def numV (most : Nat) : List UInt8 → Option Nat
  | [] => none
  | c :: cs => if c = 48 ∧ cs ≠ [] then none else nv most 0 (c :: cs)
theorem nv_snoc (most : Nat) (c : UInt8) : ∀ (l : List UInt8) (n : Nat), nv most n (l ++ [c]) = (nv most n l).bind (fun m => nv most m [c])
  | [], n => by simp [nv]
  | d :: l, n => by
    simp only [List.cons_append, nv]
    split
    · rfl
    · split
      · rfl
      · exact nv_snoc most c l _
theorem u8_of {c : UInt8} {k : Nat} (h : c.toNat = k) (hk : k < 256) : c = UInt8.ofNat k := by
  apply UInt8.toNat_inj.1
  rw [h, UInt8.toNat_ofNat_of_lt' (by show k < 256; exact hk)]
theorem dd_step {m n d : Nat} (hn : 1 ≤ n) (hd : d < 10) (h : m = 10 * n + d) : Lib.decDigits m = Lib.decDigits n ++ [UInt8.ofNat (48 + d)] := by
  rw [Lib.decDigits, dif_neg (by omega), show m / 10 = n by omega, show m % 10 = d by omega]
theorem nv_dd (most : Nat) : ∀ (l : List UInt8) (n v : Nat), 1 ≤ n → nv most n l = some v → Lib.decDigits v = Lib.decDigits n ++ l ∧ (n ≤ most → v ≤ most)
  | [], n, v, hn, h => by
    simp only [nv, Option.some.injEq] at h
    subst h
    simp
  | c :: l, n, v, hn, h => by
    simp only [nv] at h
    split at h
    · cases h
    · split at h
      · cases h
      · rename_i h1 h2
        have ih := nv_dd most l _ v (by omega) h
        rw [ih.1, dd_step hn (d := c.toNat - 48) (by omega) rfl, show 48 + (c.toNat - 48) = c.toNat by omega, ← u8_of rfl (UInt8.toNat_lt c)]
        exact ⟨by simp, fun _ => ih.2 (by omega)⟩
/-- What is told has just this text. -/
theorem num_dd {most : Nat} {l : List UInt8} {v : Nat} (h : numV most l = some v) : l = Lib.decDigits v ∧ v ≤ most := by
  match l, h with
  | c :: l, h =>
    simp only [numV] at h
    split at h
    · cases h
    · rename_i h0
      simp only [nv] at h
      split at h
      · cases h
      · split at h
        · cases h
        · rename_i h1 h2
          by_cases z : c = 48
          · have hl : l = [] := by
              by_cases e : l = []
              · exact e
              · exact absurd ⟨z, e⟩ h0
            subst hl; subst z
            have hv : v = 0 := by simpa [nv] using h.symm
            subst hv
            refine ⟨?_, Nat.zero_le _⟩
            rw [Lib.decDigits_one (by decide)]
            rfl
          · have z' : c.toNat ≠ 48 := fun e => z (by have := u8_of e (by omega); rw [this]; rfl)
            have k := nv_dd most l _ v (by omega) h
            rw [k.1, Lib.decDigits_one (by omega), show 48 + (10 * 0 + (c.toNat - 48)) = c.toNat by omega, ← u8_of rfl (UInt8.toNat_lt c)]
            exact ⟨rfl, k.2 (by omega)⟩
theorem u8_to {d : Nat} (hd : d < 10) : (UInt8.ofNat (48 + d)).toNat = 48 + d := by
  rw [UInt8.toNat_ofNat_of_lt' (by show 48 + d < 256; omega)]
theorem dd_nv {most : Nat} : ∀ (k v : Nat), v < 10 ^ (k + 1) → v ≤ most → 1 ≤ v → nv most 0 (Lib.decDigits v) = some v ∧ ∃ c l, Lib.decDigits v = c :: l ∧ c ≠ 48
  | k, v, hk, hv, h1 => by
    by_cases c : v < 10
    · rw [Lib.decDigits_one c]
      refine ⟨?_, _, _, rfl, fun e => ?_⟩
      · simp only [nv]
        rw [u8_to c, if_neg (by omega), if_neg (by omega)]
        simp
      · have := u8_to c
        rw [e] at this
        simp at this
        omega
    · match k, hk with
      | 0, hk => simp at hk; omega
      | k + 1, hk =>
        have ih := dd_nv (most := most) k (v / 10) (by rw [Nat.div_lt_iff_lt_mul (by omega)]; rw [Nat.pow_succ] at hk; exact hk) (by omega) (by omega)
        rw [dd_step (n := v / 10) (d := v % 10) (by omega) (by omega) (by omega), nv_snoc, ih.1]
        obtain ⟨c, l, e, ne⟩ := ih.2
        refine ⟨?_, c, l ++ [UInt8.ofNat (48 + v % 10)], by rw [e]; rfl, ne⟩
        simp only [nv, Option.bind_some]
        rw [u8_to (d := v % 10) (by omega), if_neg (by omega), if_neg (by omega)]
        congr 1; omega
/-- .. and each number's text is told. -/
theorem dd_num {most v : Nat} (h : v ≤ most) : numV most (Lib.decDigits v) = some v := by
  by_cases z : v = 0
  · subst z
    rw [Lib.decDigits_one (by decide)]
    simp [numV, nv]
  · have lt : v < 10 ^ (v + 1) := Nat.lt_of_lt_of_le (Nat.lt_pow_self (by decide)) (Nat.pow_le_pow_right (by decide) (Nat.le_succ v))
    obtain ⟨h1, c, l, e, ne⟩ := dd_nv v v lt h (by omega)
    rw [e] at h1 ⊢
    simp only [numV]
    rw [if_neg (fun k => ne k.1)]
    exact h1
theorem get_at {s : ByteArray} {i : Nat} (h : i < s.size) : s.get! i = s.data.toList[i]'(by simpa using h) := by
  rw [Array.getElem_toList]
  show s.data[i]! = _
  rw [getElem!_pos s.data i (by simpa using h)]
theorem size_list (s : ByteArray) : s.data.toList.length = s.size := by rw [Array.length_toList]; rfl
end Go.Proofs.Ytdgonpbponnnaaa

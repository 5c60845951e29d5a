/- Decimal digits in groups: how a text grows ahead. No condition beyond those typed. Written by mkdg16.py. -/
import Derived.Test.YtdgonpbponnnaaaGreatDoorNm16
import Derived.Test.YtdgonpbponnnaaaGreatDoorNum
namespace Go.Proofs.YtdgonpbponnnaaaGreatDoor
open Go.RowKit
set_option linter.unusedVariables false
set_option maxRecDepth 100000
set_option linter.unusedSimpArgs false

theorem dd_more16 {n : Nat} (h : 10 ≤ n) : Lib.decDigits n = Lib.decDigits (n / 10) ++ [UInt8.ofNat (48 + n % 10)] := by
  rw [Lib.decDigits, dif_neg (by omega)]
theorem dd_one16 {n : Nat} (h : n < 10) : Lib.decDigits n = [UInt8.ofNat (48 + n)] := by
  rw [Lib.decDigits, dif_pos h]
/-- A number's digits are those of its upper part and then its lower part's, with noughts ahead. -/
theorem dd_group : ∀ (k q g : Nat), 0 < q → g < 10 ^ (k + 1) → Lib.decDigits (q * 10 ^ (k + 1) + g) = Lib.decDigits q ++ (List.replicate (k + 1 - (Lib.decDigits g).length) 48 ++ Lib.decDigits g)
  | 0, q, g, hq, hg => by
    have hg' : g < 10 := by simpa using hg
    have e : q * 10 ^ (0 + 1) + g = q * 10 + g := by simp
    rw [e, dd_more16 (by omega), dd_one16 hg']
    have e1 : (q * 10 + g) / 10 = q := by omega
    have e2 : (q * 10 + g) % 10 = g := by omega
    rw [e1, e2]
    simp
  | k + 1, q, g, hq, hg => by
    have p0 : 1 ≤ 10 ^ (k + 1) := Nat.one_le_pow _ _ (by omega)
    have ps : 10 ^ (k + 1 + 1) = 10 * 10 ^ (k + 1) := by rw [Nat.pow_succ, Nat.mul_comm]
    have hg1 : g / 10 < 10 ^ (k + 1) := by rw [ps] at hg; omega
    have h := dd_group k q (g / 10) hq hg1
    have em : q * 10 ^ (k + 1 + 1) = 10 * (q * 10 ^ (k + 1)) := by rw [ps, Nat.mul_left_comm]
    have q1 : 1 ≤ q * 10 ^ (k + 1) := Nat.mul_pos hq p0
    rw [em]
    generalize q * 10 ^ (k + 1) = Q at *
    rw [dd_more16 (n := 10 * Q + g) (by omega), show (10 * Q + g) / 10 = Q + g / 10 by omega, show (10 * Q + g) % 10 = g % 10 by omega, h]
    by_cases c : g < 10
    · have z : g / 10 = 0 := by omega
      rw [z, dd_one16 (n := 0) (by omega), dd_one16 c, show g % 10 = g by omega]
      have r : List.replicate (k + 1) (48 : UInt8) = List.replicate k 48 ++ [48] := List.replicate_succ'
      simp [r]
    · rw [dd_more16 (n := g) (by omega)]
      simp [Nat.add_sub_add_right]
/-- What lies ahead of a text that grows ahead: nothing, or a number's digits. -/
def Hd16 (n v : Nat) (T : List UInt8) : Prop := Lib.decDigits n = (if v = 0 then T else Lib.decDigits v ++ T)
theorem Hd16.start {n : Nat} (h : n ≠ 0) : Hd16 n n [] := by unfold Hd16; rw [if_neg h]; simp
theorem Hd16.len {n v : Nat} {T : List UInt8} (h : Hd16 n v T) : T.length ≤ (Lib.decDigits n).length := by
  unfold Hd16 at h
  rw [h]
  split <;> simp
theorem Hd16.last {n v : Nat} {T : List UInt8} (h : Hd16 n v T) (hv : v ≠ 0) (k : Nat) (h0 : v / 10 ^ (k + 1) = 0) : Hd16 n 0 (Lib.decDigits (v % 10 ^ (k + 1)) ++ T) := by
  unfold Hd16 at *
  rw [if_pos rfl]
  rw [if_neg hv] at h
  rw [h, Nat.mod_eq_of_lt ((Nat.div_eq_zero_iff_lt (Nat.pow_pos (by omega))).1 h0)]
theorem Hd16.more {n v : Nat} {T : List UInt8} (h : Hd16 n v T) (k : Nat) (h0 : v / 10 ^ (k + 1) ≠ 0) : Hd16 n (v / 10 ^ (k + 1)) (List.replicate (k + 1 - (Lib.decDigits (v % 10 ^ (k + 1))).length) 48 ++ Lib.decDigits (v % 10 ^ (k + 1)) ++ T) := by
  have hv : v ≠ 0 := by intro e; rw [e] at h0; simp at h0
  unfold Hd16 at *
  rw [if_neg h0]
  rw [if_neg hv] at h
  have g := dd_group k (v / 10 ^ (k + 1)) (v % 10 ^ (k + 1)) (Nat.pos_of_ne_zero h0) (Nat.mod_lt _ (Nat.pow_pos (by omega)))
  rw [Nat.mul_comm, Nat.div_add_mod] at g
  rw [h, g]
  simp [List.append_assoc]
end Go.Proofs.YtdgonpbponnnaaaGreatDoor

/- Texts as lists of bytes; l1Num: the decimal digits of a number. No condition beyond those typed. -/
import Derived.Test.YtoffondgdnmhkaaIn14
import Derived.Laws.BytesArg
import Derived.Lib.ItoaNum
namespace Go.Proofs.Ytoffondgdnmhkaa
open Go.RowKit
set_option linter.unusedVariables false
set_option maxRecDepth 100000
set_option linter.unusedSimpArgs false

/-- A text that has these bytes. -/
def st (l : List UInt8) : ByteArray := ⟨l.toArray⟩
theorem st_add (l m : List UInt8) : st l ++ st m = st (l ++ m) := by
  apply ByteArray.ext
  simp [st, ByteArray.data_append]
theorem st_nil_add (l : List UInt8) : ({ data := #[] } : ByteArray) ++ st l = st l := st_add [] l
theorem st_of (s : ByteArray) : s = st s.data.toList := by apply ByteArray.ext; simp [st]
theorem st_data (l : List UInt8) : (st l).data.toList = l := by simp [st]
theorem st_size (l : List UInt8) : (st l).size = l.length := by simp [st, ByteArray.size]
theorem st_inj {l m : List UInt8} (h : st l = st m) : l = m := by have := congrArg (fun s => s.data.toList) h; simpa [st_data] using this
theorem st_beq (v : ByteArray) : (v == v) = true := by
  show (v.data == v.data) = true
  simp
theorem st_ne (v : ByteArray) : (v != v) = false := by simp [bne, st_beq v]
/-- The byte of a number. -/
def by8 (x : Int) : UInt8 := UInt8.ofNat x.toNat
theorem dd_one {n : Nat} (h : n < 10) : Lib.decDigits n = [by8 (48 + (n : Int))] := by
  rw [Lib.decDigits_one h]
  unfold by8
  rw [show (48 + (n : Int)).toNat = 48 + n by omega]
theorem dd_more {n : Nat} (h : ¬ n < 10) : Lib.decDigits n = Lib.decDigits (n / 10) ++ [by8 (48 + ((n % 10 : Nat) : Int))] := by
  rw [Lib.decDigits, dif_neg h]
  unfold by8
  rw [show (48 + ((n % 10 : Nat) : Int)).toNat = 48 + n % 10 by omega]
theorem dd_len : ∀ k n : Nat, n < 10 ^ (k + 1) → (Lib.decDigits n).length ≤ k + 1
  | 0, n, h => by rw [dd_one (by simpa using h)]; simp
  | k + 1, n, h => by
    by_cases c : n < 10
    · rw [dd_one c]; simp
    · rw [dd_more c, List.length_append]
      have := dd_len k (n / 10) (by rw [Nat.div_lt_iff_lt_mul (by omega)]; rw [Nat.pow_succ] at h; exact h)
      simp; omega
end Go.Proofs.Ytoffondgdnmhkaa

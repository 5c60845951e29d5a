/- BigOf: the program's and the specification's answer the number of every int. No condition beyond those typed. -/
import Derived.Test.YtdgonpbponnnaaaSgs
namespace Go.Proofs.Ytdgonpbponnnaaa
open Go.RowKit
set_option linter.unusedVariables false
set_option maxRecDepth 100000
set_option linter.unusedSimpArgs false

theorem and_maskU (n : Int) : bits .and .u64 n 65535 = n % 65536 := by
  have h16 : (BitVec.ofInt 64 65535).toNat = 2 ^ 16 - 1 := by decide
  have key : (BitVec.ofInt 64 n &&& BitVec.ofInt 64 65535).toNat = (n % ((2 ^ 64 : Nat) : Int)).toNat % 2 ^ 16 := by
    rw [BitVec.toNat_and, BitVec.toNat_ofInt, h16, Nat.and_two_pow_sub_one_eq_mod]
  show IntKind.u64.wrap ((BitVec.ofInt 64 n &&& BitVec.ofInt 64 65535).toNat : Nat) = n % 65536
  rw [key, IntKind.wrap_u64]
  omega

def ds4 (U : Int) : List Int := [U % 65536, U / 65536 % 65536, U / 4294967296 % 65536, U / 281474976710656 % 65536]
theorem ds4_ok (U : Int) : okL (ds4 U) := by
  intro x hx
  simp only [ds4, List.mem_cons, List.not_mem_nil, or_false] at hx
  rcases hx with rfl | rfl | rfl | rfl <;> omega
theorem ds4_val (U : Int) (h0 : 0 ≤ U) (h1 : U ≤ 9223372036854775808) : val (ds4 U) = U := by
  simp only [ds4, val]
  omega
theorem ds4_own (w : World) (o : Obj) (U : Int) : Own (w.heap.size + 1) ((w.alloc o).alloc (.cells #[.int .i64 (U % 65536), .int .i64 (U / 65536 % 65536), .int .i64 (U / 4294967296 % 65536), .int .i64 (U / 281474976710656 % 65536)] 3)) (some ⟨w.heap.size + 1, 0, none⟩) (ds4 U) := by
  refine .inr ⟨w.heap.size + 1, #[.int .i64 (U % 65536), .int .i64 (U / 65536 % 65536), .int .i64 (U / 4294967296 % 65536), .int .i64 (U / 281474976710656 % 65536)], rfl, Nat.le_refl _, ?_, ?_⟩
  · show ((w.heap.push o).push _)[w.heap.size + 1]? = _
    rw [Array.getElem?_push, if_pos (by simp)]
  · intro i hi
    match i, hi with
    | 0, _ => rfl
    | 1, _ => rfl
    | 2, _ => rfl
    | 3, _ => rfl

theorem below_pushB {B : Nat} {W wr w1 : World} {o : Obj} {v : Value} {n : Nat} {xs : List Value} (hb : Below B W wr) (hB : B ≤ wr.heap.size) (hown : wr.ownsRow B 3 1 v n xs) (hg : (wr.alloc o).grownBy w1 v.ownBlock) : Below B W w1 := by
  refine (hb.alloc hB o).grown hg (by simp; omega) ?_
  intro k e
  rcases hown.2 with ⟨rfl, _⟩ | ⟨g, cap, cur, rfl, hgb, _⟩
  · simp [Value.ownBlock] at e
  · simp [Value.ownBlock] at e; omega
theorem Acc.down {zs : List Int} {k : Nat} {p V : Int} (h : Acc zs k p V) (h0 : 0 ≤ p) : Acc (zs ++ [p % 65536]) (k + 1) (p / 65536) V := by
  have := h.step p
  exact this.cast (by simp)
theorem acc_bound {zs : List Int} {k : Nat} {p V : Int} (h : Acc zs k p V) (hp : 0 < p) (hV : V ≤ 9223372036854775808) : k ≤ 3 := by
  have l := val_nonneg h.ok
  have e := h.v
  by_cases hk : k ≤ 3
  · exact hk
  · have h4 : (65536 : Int) ^ 4 ≤ 65536 ^ k := pow_mono (by omega)
    have h5 : (65536 : Int) ^ k * 1 ≤ 65536 ^ k * p := Int.mul_le_mul_of_nonneg_left (by omega) (Int.le_of_lt (Int.pow_pos (by omega)))
    have h6 : (65536 : Int) ^ 4 = 18446744073709551616 := by decide
    omega

end Go.Proofs.Ytdgonpbponnnaaa

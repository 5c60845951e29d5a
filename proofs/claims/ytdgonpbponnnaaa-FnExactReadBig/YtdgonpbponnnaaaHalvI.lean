/- Parts of limbs and limbs shifted: the program's partsOf and shiftLimbs. No condition beyond those typed. -/
import Derived.Test.YtdgonpbponnnaaaMulBig
namespace Go.Proofs.Ytdgonpbponnnaaa
open Go.RowKit
set_option linter.unusedVariables false
set_option maxRecDepth 100000
set_option linter.unusedSimpArgs false

theorem made_owns (w : World) (b n : Nat) (hm : b + n ≤ maxLen) : (w.alloc (.cells (madeCells #[.int .i64 0] (b + n)) 3)).ownsRow w.heap.size 3 1 (.slice (some ⟨w.heap.size, 0, none⟩) b (b + n)) b ((List.replicate b 0).map (Value.int .i64)) := by
  refine ⟨by simp, .inr ⟨w.heap.size, b + n, madeCells #[.int .i64 0] (b + n), rfl, Nat.le_refl _, ?_, by omega, hm, by simp [size_madeCells], ?_⟩⟩
  · show (w.heap.push _)[w.heap.size]? = _
    simp
  · rw [made_ints]
    rw [← List.map_take, List.take_replicate]
    congr 2
    omega
theorem val_zeros (n : Nat) (xs : List Int) : val (List.replicate n 0 ++ xs) = 65536 ^ n * val xs := by
  induction n with
  | zero => simp
  | succ n ih => simp only [List.replicate_succ, List.cons_append, val, ih, Int.pow_succ, Int.mul_comm (65536 ^ n) 65536, Int.mul_assoc]; omega
theorem okL_zeros (n : Nat) {xs : List Int} (h : okL xs) : okL (List.replicate n 0 ++ xs) := okL_append (fun x hx => by rw [List.eq_of_mem_replicate hx]; omega) h

end Go.Proofs.Ytdgonpbponnnaaa

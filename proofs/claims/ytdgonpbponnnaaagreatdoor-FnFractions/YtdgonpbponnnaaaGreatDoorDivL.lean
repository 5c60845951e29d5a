/- Quotients of limbs by others: the program's divLong, divLimbs and gcdLimbs. No condition beyond those typed. -/
import Derived.Test.YtdgonpbponnnaaaGreatDoorDivW
import Derived.Lib.Strings
import Derived.Lib.Slices
import Derived.Lib.Small
import Derived.Lib.Walk
import Derived.Lib.BitFns
namespace Go.Proofs.YtdgonpbponnnaaaGreatDoor
open Go.RowKit
set_option linter.unusedVariables false
set_option maxRecDepth 100000
set_option linter.unusedSimpArgs false

theorem bitLen_fits : ∀ n : Fin 256, n.val < 2 ^ Lib.bitLen n.val ∧ Lib.bitLen n.val ≤ 8 ∧ (1 ≤ n.val → 1 ≤ Lib.bitLen n.val) := by decide +kernel
theorem len8_fits (x : Int) (h0 : 0 ≤ x) (h1 : x ≤ 255) : ∃ k : Nat, Lib.len8 x = k ∧ k ≤ 8 ∧ x < 2 ^ k ∧ (1 ≤ x → 1 ≤ k) := by
  obtain ⟨a, b, c⟩ := bitLen_fits ⟨x.toNat, by omega⟩
  refine ⟨Lib.bitLen x.toNat, Lib.len8_of x h0 h1, b, ?_, fun h => c (by show 1 ≤ x.toNat; omega)⟩
  have a' : x.toNat < 2 ^ Lib.bitLen x.toNat := a
  have : ((x.toNat : Nat) : Int) < ((2 ^ Lib.bitLen x.toNat : Nat) : Int) := by exact_mod_cast a'
  rw [Int.toNat_of_nonneg h0] at this
  simpa using this

set_option maxRecDepth 100000 in
set_option maxHeartbeats 4000000 in
theorem len64_any (x : Int) (w : World) (h0 : 1 ≤ x) (h1 : x ≤ 65535) :
    Calls Tryz.prog 117 #[.int .u64 x] w fun e w' => ∃ n : Nat, e = .returned (.int .i64 n) ∧ w' = w ∧ 1 ≤ n ∧ n ≤ 16 ∧ x < 2 ^ n := by
  have hu := Tryz.underlying9
  by_cases h : x < 256
  · have hx0 : 0 ≤ x := by omega
    have hx1 : x ≤ 255 := by omega
    obtain ⟨k, hk, k1, k2, k3⟩ := len8_fits x hx0 hx1
    have K2 := hide k2
    have K3 := hide (k3 h0)
    clear k2 k3
    go_enter Tryz.func117, Tryz.ntmps117
    go_wp2
    go_ret
    exact ⟨k, by first | rfl | go_num, rfl, unhide K3, by omega, unhide K2⟩
  · have hx0 : 0 ≤ x / 256 := by omega
    have hx1 : x / 256 ≤ 255 := by omega
    obtain ⟨k, hk, k1, k2, k3⟩ := len8_fits (x / 256) hx0 hx1
    have K2 := hide k2
    clear k2 k3
    go_enter Tryz.func117, Tryz.ntmps117
    go_wp2
    go_ret
    refine ⟨8 + k, by first | rfl | go_num, rfl, by omega, by omega, ?_⟩
    have := unhide K2
    rw [Int.pow_add]
    omega
theorem len_any (x : Int) (w : World) (h0 : 1 ≤ x) (h1 : x ≤ 65535) :
    Calls Tryz.prog 110 #[.int .u64 x] w fun e w' => ∃ n : Nat, e = .returned (.int .i64 n) ∧ w' = w ∧ 1 ≤ n ∧ n ≤ 16 ∧ x < 2 ^ n := by
  go_enter Tryz.func110, Tryz.ntmps110
  go_wp2_with fail
  refine (len64_any x w h0 h1).mono ?_
  rintro e w1 ⟨n, rfl, rfl, h2, h3, h4⟩
  have H4 := hide h4
  clear h4
  go_wp2
  go_ret
  exact ⟨n, rfl, rfl, h2, h3, unhide H4⟩
end Go.Proofs.YtdgonpbponnnaaaGreatDoor

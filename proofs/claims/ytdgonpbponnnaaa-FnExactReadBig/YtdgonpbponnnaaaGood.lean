/- The program's GoodBig and the specification's GoodBig answer the same bool (goodB) at every number. No condition beyond those typed. -/
import Derived.Test.YtdgonpbponnnaaaTo
namespace Go.Proofs.Ytdgonpbponnnaaa
open Go.RowKit
set_option linter.unusedVariables false
set_option maxRecDepth 100000
set_option linter.unusedSimpArgs false

def limbOk (x : Int) : Bool := decide (0 ≤ x) && decide (x ≤ 65535)
def goodB (g : Bool) (xs : List Int) : Bool := xs.all limbOk && (if xs.length = 0 then !g else decide (xs.length ≤ 40) && (xs.getD (xs.length - 1) 0 != 0))

theorem all_ok {xs : List Int} (h : ∀ i, i < xs.length → limbOk (xs.getD i 0) = true) : xs.all limbOk = true := by
  rw [List.all_eq_true]
  intro x hx
  obtain ⟨i, hi, rfl⟩ := List.mem_iff_getElem.1 hx
  have := h i hi
  simpa [hi] using this
theorem goodB_bad (g : Bool) {xs : List Int} {k : Nat} (hk : k < xs.length) (h : limbOk (xs.getD k 0) = false) : goodB g xs = false := by
  have : xs.all limbOk = false := by
    rw [List.all_eq_false]
    exact ⟨xs[k], List.getElem_mem hk, by simpa [hk] using h⟩
  simp [goodB, this]
theorem goodB_nil (g : Bool) : goodB g [] = !g := by simp [goodB]
theorem goodB_long (g : Bool) {xs : List Int} (h : 40 < xs.length) : goodB g xs = false := by
  have h0 : ¬ xs.length = 0 := by omega
  have h1 : ¬ xs.length ≤ 40 := by omega
  unfold goodB
  rw [if_neg h0, decide_eq_false h1]
  simp
theorem goodB_last (g : Bool) {xs : List Int} (hok : ∀ i, i < xs.length → limbOk (xs.getD i 0) = true) (h0 : 0 < xs.length) (h : xs.length ≤ 40) : goodB g xs = (xs.getD (xs.length - 1) 0 != 0) := by
  unfold goodB
  rw [all_ok hok, if_neg (by omega), decide_eq_true h]
  simp

theorem ret_bool {a b : Bool} (h : a = b) : Ending.returned (.bool a) = .returned (.bool b) := by rw [h]
theorem ret_int {k : IntKind} {a b : Int} (h : a = b) : Ending.returned (.int k a) = .returned (.int k b) := by rw [h]

theorem l1In_any (x lo hi : Int) (w : World) :
    Calls Try.prog 9 #[.int .i64 x, .int .i64 lo, .int .i64 hi] w fun e w' => e = .returned (.bool (decide (lo ≤ x) && decide (x ≤ hi))) ∧ w' = w := by
  by_cases h1 : lo ≤ x
  · by_cases h2 : x ≤ hi
    all_goals
      go_enter Try.func9, Try.ntmps9
      go_wp2
      go_ret
      exact ⟨by simp [h1, h2], rfl⟩
  · have hd : decide (lo ≤ x) = false := by simpa using h1
    go_enter Try.func9, Try.ntmps9
    go_wp2
    go_ret
    exact ⟨by simp, rfl⟩

theorem limb_in (x : Int) (w : World) :
    Calls Try.prog 9 #[.int .i64 x, .int .i64 0, .int .i64 65535] w fun e w' => e = .returned (.bool (limbOk x)) ∧ w' = w := l1In_any x 0 65535 w

end Go.Proofs.Ytdgonpbponnnaaa

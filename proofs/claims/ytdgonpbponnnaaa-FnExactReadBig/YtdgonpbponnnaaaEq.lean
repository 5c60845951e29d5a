/- The laws' comparing functions eqIntS and eqBig answer true at like numbers. No condition beyond those typed. -/
import Derived.Test.YtdgonpbponnnaaaGood
namespace Go.Proofs.Ytdgonpbponnnaaa
open Go.RowKit
set_option linter.unusedVariables false
set_option maxRecDepth 100000
set_option linter.unusedSimpArgs false

theorem eqI_nil (a a' : Option Addr) (c c' : Nat) (w : World) :
    Calls Try.prog 18 #[.slice a 0 c, .slice a' 0 c'] w fun e w' => e = .returned (.bool true) ∧ Below w.heap.size w w' := by
  go_enter Try.func18, Try.ntmps18
  go_wp2
  refine wp_loop_rounds 1 ?_
  rw [rounds_succ]
  go_wp2
  go_ret
  exact ⟨rfl, Below.refl _ _⟩

set_option maxHeartbeats 1000000 in
theorem eqI_cons (b off b' off' n c c' : Nat) (xs : List Int) (w : World) (hm : n ≤ maxLen) (h0 : 0 < n) (hb : b < w.heap.size) (hb' : b' < w.heap.size)
    (hc : ∀ i, i < n → w.cell? ⟨b, off + i, none⟩ = some (.int .i64 (xs.getD i 0))) (hc' : ∀ i, i < n → w.cell? ⟨b', off' + i, none⟩ = some (.int .i64 (xs.getD i 0))) :
    Calls Try.prog 18 #[.slice (some ⟨b, off, none⟩) n c, .slice (some ⟨b', off', none⟩) n c'] w fun e w' => e = .returned (.bool true) ∧ Below w.heap.size w w' := by
  unfold maxLen at hm
  have HC := hide hc
  have HC' := hide hc'
  clear hc hc'
  go_enter Try.func18, Try.ntmps18
  go_wp2
  go_loopw [5] (fun i wr => ∃ k : Nat, k ≤ n ∧ i = .int .i64 k ∧ Below w.heap.size w wr) (fun i _ => n - (intOf i).toNat)
  case atStart => exact ⟨0, Nat.zero_le _, rfl, Below.refl _ _⟩
  case round =>
    obtain ⟨k, hk, rfl, hbel⟩ := hrel
    by_cases hlt : k < n
    · have hk1 : (k : Int) < (n : Int) := by omega
      have e1 : wr.cell? ⟨b, off + k, none⟩ = some (.int .i64 (xs.getD k 0)) := (hbel.cell (by exact hb)).trans (unhide HC k hlt)
      have e2 : wr.cell? ⟨b', off' + k, none⟩ = some (.int .i64 (xs.getD k 0)) := (hbel.cell (by exact hb')).trans (unhide HC' k hlt)
      generalize xs.getD k 0 = x at e1 e2
      have HB := hide hbel
      clear hbel
      go_wp2
      go_quiet (fail)
      go_wp2
      go_roundw
      case rel => exact ⟨k + 1, by omega, by go_num, below_drewN (unhide HB) _⟩
      case measure => simp [intOf]; omega
    · go_wp2
      go_ret
      exact ⟨rfl, hbel⟩

theorem eqI_same (a a' : Option Addr) (n c c' : Nat) (xs : List Int) (w : World) (hx : Sl w a xs) (hx' : Sl w a' xs) (hn : xs.length = n) (hm : n ≤ maxLen) :
    Calls Try.prog 18 #[.slice a n c, .slice a' n c'] w fun e w' => e = .returned (.bool true) ∧ Below w.heap.size w w' := by
  by_cases h0 : n = 0
  · subst h0
    exact eqI_nil a a' c c' w
  · rcases hx with rfl | ⟨b, off, rfl, hb, hc⟩
    · simp at hn; omega
    rcases hx' with rfl | ⟨b', off', rfl, hb', hc'⟩
    · simp at hn; omega
    exact eqI_cons b off b' off' n c c' xs w hm (by omega) hb hb' (by rw [← hn]; exact hc) (by rw [← hn]; exact hc')

theorem eq_same (g : Bool) (a a' : Option Addr) (n c c' : Nat) (xs : List Int) (w : World) (hx : Sl w a xs) (hx' : Sl w a' xs) (hn : xs.length = n) (hm : n ≤ maxLen) :
    Calls Try.prog 6 #[.agg #[.bool g, .slice a n c], .agg #[.bool g, .slice a' n c']] w fun e w' => e = .returned (.bool true) ∧ Below w.heap.size w w' := by
  have HX := hide hx
  have HX' := hide hx'
  have HN := hide hn
  clear hx hx' hn
  go_enter Try.func6, Try.ntmps6
  go_wp2_with fail
  refine (eqI_same a a' n c c' xs _ ((unhide HX).later (Nat.le_refl _) (by exact ((Below.refl _ _).alloc (Nat.le_refl _) _).alloc (by simp) _)) ((unhide HX').later (Nat.le_refl _) (by exact ((Below.refl _ _).alloc (Nat.le_refl _) _).alloc (by simp) _)) (unhide HN) hm).mono ?_
  rintro e w1 ⟨rfl, hb⟩
  go_wp2
  go_ret
  exact ⟨rfl, (((Below.refl _ _).alloc (Nat.le_refl _) _).alloc (by simp) _).trans (hb.mono (by simp; omega))⟩
end Go.Proofs.Ytdgonpbponnnaaa

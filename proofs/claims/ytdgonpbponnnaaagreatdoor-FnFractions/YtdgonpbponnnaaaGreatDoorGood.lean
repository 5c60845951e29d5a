/- The program's GoodBig and the specification's GoodBig answer the same bool (goodB) at every number. No condition beyond those typed. -/
import Derived.Test.YtdgonpbponnnaaaGreatDoorTo
namespace Go.Proofs.YtdgonpbponnnaaaGreatDoor
open Go.RowKit
set_option linter.unusedVariables false
set_option maxRecDepth 100000
set_option linter.unusedSimpArgs false

def limbOk (x : Int) : Bool := decide (0 ≤ x) && decide (x ≤ 65535)
def goodB (g : Bool) (xs : List Int) : Bool := xs.all limbOk && (if xs.length = 0 then !g else decide (xs.length ≤ 40) && (xs.getD (xs.length - 1) 0 != 0))

theorem all_ok {xs : List Int} (h : ∀ i, i < xs.length → limbOk (xs.getD i 0) = true) : xs.all limbOk = true := by
  rw [List.all_eq_true]
  intro x hx
  obtain ⟨i, hi, rfl⟩ := List.mem_iff_getElem.1 hx
  have := h i hi
  simpa [hi] using this
theorem goodB_bad (g : Bool) {xs : List Int} {k : Nat} (hk : k < xs.length) (h : limbOk (xs.getD k 0) = false) : goodB g xs = false := by
  have : xs.all limbOk = false := by
    rw [List.all_eq_false]
    exact ⟨xs[k], List.getElem_mem hk, by simpa [hk] using h⟩
  simp [goodB, this]
theorem goodB_nil (g : Bool) : goodB g [] = !g := by simp [goodB]
theorem goodB_long (g : Bool) {xs : List Int} (h : 40 < xs.length) : goodB g xs = false := by
  have h0 : ¬ xs.length = 0 := by omega
  have h1 : ¬ xs.length ≤ 40 := by omega
  unfold goodB
  rw [if_neg h0, decide_eq_false h1]
  simp
theorem goodB_last (g : Bool) {xs : List Int} (hok : ∀ i, i < xs.length → limbOk (xs.getD i 0) = true) (h0 : 0 < xs.length) (h : xs.length ≤ 40) : goodB g xs = (xs.getD (xs.length - 1) 0 != 0) := by
  unfold goodB
  rw [all_ok hok, if_neg (by omega), decide_eq_true h]
  simp

theorem ret_bool {a b : Bool} (h : a = b) : Ending.returned (.bool a) = .returned (.bool b) := by rw [h]
theorem ret_int {k : IntKind} {a b : Int} (h : a = b) : Ending.returned (.int k a) = .returned (.int k b) := by rw [h]

theorem l1In_any (x lo hi : Int) (w : World) :
    Calls Tryz.prog 53 #[.int .i64 x, .int .i64 lo, .int .i64 hi] w fun e w' => e = .returned (.bool (decide (lo ≤ x) && decide (x ≤ hi))) ∧ w' = w := by
  by_cases h1 : lo ≤ x
  · by_cases h2 : x ≤ hi
    all_goals
      go_enter Tryz.func53, Tryz.ntmps53
      go_wp2
      go_ret
      exact ⟨by simp [h1, h2], rfl⟩
  · have hd : decide (lo ≤ x) = false := by simpa using h1
    go_enter Tryz.func53, Tryz.ntmps53
    go_wp2
    go_ret
    exact ⟨by simp, rfl⟩

theorem limb_in (x : Int) (w : World) :
    Calls Tryz.prog 53 #[.int .i64 x, .int .i64 0, .int .i64 65535] w fun e w' => e = .returned (.bool (limbOk x)) ∧ w' = w := l1In_any x 0 65535 w

theorem goodS_nil (g : Bool) (a : Option Addr) (c : Nat) (w : World) :
    Calls Tryz.prog 46 #[.agg #[.bool g, .slice a 0 c]] w fun e w' => e = .returned (.bool (goodB g [])) ∧ Below w.heap.size w w' := by
  rw [goodB_nil]
  go_enter Tryz.func46, Tryz.ntmps46
  go_wp2
  refine wp_loop_rounds 1 ?_
  rw [rounds_succ]
  go_wp2
  go_ret
  exact ⟨rfl, (Below.refl _ _).alloc (Nat.le_refl _) _⟩
set_option maxHeartbeats 1000000 in
theorem goodS_cons (g : Bool) (b off n c : Nat) (xs : List Int) (w : World) (hn : xs.length = n) (h0 : 0 < n) (hm : n ≤ maxLen) (hb : b < w.heap.size)
    (hc : ∀ i, i < n → w.cell? ⟨b, off + i, none⟩ = some (.int .i64 (xs.getD i 0))) :
    Calls Tryz.prog 46 #[.agg #[.bool g, .slice (some ⟨b, off, none⟩) n c]] w fun e w' => e = .returned (.bool (goodB g xs)) ∧ Below w.heap.size w w' := by
  unfold maxLen at hm
  have HN := hide hn
  clear hn
  have hne : ((n : Int) == 0) = false := by simp; omega
  go_enter Tryz.func46, Tryz.ntmps46
  go_wp2
  go_loop [9] (fun i => ∃ k : Nat, k ≤ n ∧ i = .int .i64 k ∧ ∀ i, i < k → limbOk (xs.getD i 0) = true) (fun i => n - (intOf i).toNat)
  case atStart => exact ⟨0, Nat.zero_le _, rfl, fun i hi => absurd hi (Nat.not_lt_zero _)⟩
  case round =>
    obtain ⟨k, hk, rfl, hok⟩ := hrel
    have HOK := hide hok
    clear hok
    by_cases hlt : k < n
    · have hcx := hc k hlt
      generalize hx : xs.getD k 0 = x at hcx
      have HX := hide hx
      have HC := hide hc
      clear hx hc
      cases hl : limbOk x
      · go_wp2_with (go_at_call 53; refine (limb_in _ _).mono ?_; rintro e w' ⟨rfl, rfl⟩)
        go_ret
        exact ⟨ret_bool (goodB_bad g (by rw [unhide HN]; exact hlt) (by rw [unhide HX]; exact hl)).symm, (Below.refl _ _).alloc (Nat.le_refl _) _⟩
      · go_wp2_with (go_at_call 53; refine (limb_in _ _).mono ?_; rintro e w' ⟨rfl, rfl⟩)
        go_round
        case rel =>
          refine ⟨k + 1, by omega, by go_num, fun i hi => ?_⟩
          by_cases e : i = k
          · rw [e, unhide HX]; exact hl
          · exact unhide HOK i (by omega)
        case measure => simp [intOf]; omega
    · have hkn : k = n := by omega
      subst hkn
      by_cases h40 : k ≤ 40
      · have hcl := hc (k - 1) (by omega)
        generalize hx : xs.getD (k - 1) 0 = x at hcl
        have HX := hide hx
        clear hx hc
        have i1 : (0 : Int) ≤ (k : Int) - 1 := by omega
        have i2 : (k : Int) - 1 < k := by omega
        go_wp2
        go_ret
        refine ⟨ret_bool ?_, (Below.refl _ _).alloc (Nat.le_refl _) _⟩
        rw [goodB_last g (by rw [unhide HN]; exact unhide HOK) (by rw [unhide HN]; exact h0) (by rw [unhide HN]; exact h40), unhide HN, unhide HX]
      · have hd : decide ((k : Int) ≤ 40) = false := by simp; omega
        clear hc
        go_wp2
        go_ret
        exact ⟨ret_bool (goodB_long g (by rw [unhide HN]; omega)).symm, (Below.refl _ _).alloc (Nat.le_refl _) _⟩

theorem goodS_any (g : Bool) (a : Option Addr) (n c : Nat) (xs : List Int) (w : World) (hx : Sl w a xs) (hn : xs.length = n) (hm : n ≤ maxLen) :
    Calls Tryz.prog 46 #[.agg #[.bool g, .slice a n c]] w fun e w' => e = .returned (.bool (goodB g xs)) ∧ Below w.heap.size w w' := by
  by_cases h0 : n = 0
  · subst h0
    obtain rfl : xs = [] := List.length_eq_zero_iff.1 hn
    exact goodS_nil g a c w
  · rcases hx with rfl | ⟨b, off, rfl, hb, hc⟩
    · simp at hn; omega
    · exact goodS_cons g b off n c xs w hn (by omega) hm hb (by rw [← hn]; exact hc)

theorem goodI_nil (g : Bool) (a : Option Addr) (c : Nat) (w : World) :
    Calls Tryz.prog 76 #[.agg #[.bool g, .slice a 0 c]] w fun e w' => e = .returned (.bool (goodB g [])) ∧ Below w.heap.size w w' := by
  rw [goodB_nil]
  go_enter Tryz.func76, Tryz.ntmps76
  go_wp2
  refine wp_loop_rounds 1 ?_
  rw [rounds_succ]
  go_wp2
  go_ret
  exact ⟨rfl, (Below.refl _ _).alloc (Nat.le_refl _) _⟩
set_option maxHeartbeats 1000000 in
theorem goodI_cons (g : Bool) (b off n c : Nat) (xs : List Int) (w : World) (hn : xs.length = n) (h0 : 0 < n) (hm : n ≤ maxLen) (hb : b < w.heap.size)
    (hc : ∀ i, i < n → w.cell? ⟨b, off + i, none⟩ = some (.int .i64 (xs.getD i 0))) :
    Calls Tryz.prog 76 #[.agg #[.bool g, .slice (some ⟨b, off, none⟩) n c]] w fun e w' => e = .returned (.bool (goodB g xs)) ∧ Below w.heap.size w w' := by
  unfold maxLen at hm
  have HN := hide hn
  clear hn
  have hne : ((n : Int) == 0) = false := by simp; omega
  by_cases h40 : (n : Int) ≤ 40
  · have h40' : ¬ (40 : Int) < (n : Int) := by omega
    go_enter Tryz.func76, Tryz.ntmps76
    go_wp2
    go_loop [14] (fun i => ∃ k : Nat, k ≤ n ∧ i = .int .i64 k ∧ ∀ i, i < k → limbOk (xs.getD i 0) = true) (fun i => n - (intOf i).toNat)
    case atStart => exact ⟨0, Nat.zero_le _, rfl, fun i hi => absurd hi (Nat.not_lt_zero _)⟩
    case round =>
      obtain ⟨k, hk, rfl, hok⟩ := hrel
      have HOK := hide hok
      clear hok
      by_cases hlt : k < n
      · have hcx := hc k hlt
        generalize hx : xs.getD k 0 = x at hcx
        have HX := hide hx
        have HC := hide hc
        clear hx hc
        by_cases hl : 0 ≤ x ∧ x ≤ 65535
        · obtain ⟨l1, l2⟩ := hl
          have l3 : ¬ x < 0 := by omega
          have l4 : ¬ (65536 : Int) ≤ x := by omega
          have hd : decide (x < 0) = false := by simp; omega
          go_wp2
          go_round
          case rel =>
            refine ⟨k + 1, by omega, by go_num, fun i hi => ?_⟩
            by_cases e : i = k
            · rw [e, unhide HX]; simp [limbOk, l1, l2]
            · exact unhide HOK i (by omega)
          case measure => simp [intOf]; omega
        · by_cases l1 : x < 0
          · have hd : decide (x < 0) = true := by simp; omega
            go_wp2
            go_ret
            exact ⟨ret_bool (goodB_bad g (by rw [unhide HN]; exact hlt) (by rw [unhide HX]; simp [limbOk]; omega)).symm, (Below.refl _ _).alloc (Nat.le_refl _) _⟩
          · have l2 : (65536 : Int) ≤ x := by omega
            have hd : decide (x < 0) = false := by simp; omega
            go_wp2
            go_ret
            exact ⟨ret_bool (goodB_bad g (by rw [unhide HN]; exact hlt) (by rw [unhide HX]; simp [limbOk]; omega)).symm, (Below.refl _ _).alloc (Nat.le_refl _) _⟩
      · have hkn : k = n := by omega
        subst hkn
        have hcl := hc (k - 1) (by omega)
        generalize hx : xs.getD (k - 1) 0 = x at hcl
        have HX := hide hx
        clear hx hc
        have i1 : (0 : Int) ≤ (k : Int) - 1 := by omega
        have i2 : (k : Int) - 1 < k := by omega
        go_wp2
        go_ret
        refine ⟨ret_bool ?_, (Below.refl _ _).alloc (Nat.le_refl _) _⟩
        rw [goodB_last g (by rw [unhide HN]; exact unhide HOK) (by rw [unhide HN]; exact h0) (by rw [unhide HN]; omega), unhide HN, unhide HX]
  · have h40' : (40 : Int) < (n : Int) := by omega
    go_enter Tryz.func76, Tryz.ntmps76
    go_wp2
    go_ret
    exact ⟨ret_bool (goodB_long g (by rw [unhide HN]; omega)).symm, (Below.refl _ _).alloc (Nat.le_refl _) _⟩

theorem goodI_any (g : Bool) (a : Option Addr) (n c : Nat) (xs : List Int) (w : World) (hx : Sl w a xs) (hn : xs.length = n) (hm : n ≤ maxLen) :
    Calls Tryz.prog 76 #[.agg #[.bool g, .slice a n c]] w fun e w' => e = .returned (.bool (goodB g xs)) ∧ Below w.heap.size w w' := by
  by_cases h0 : n = 0
  · subst h0
    obtain rfl : xs = [] := List.length_eq_zero_iff.1 hn
    exact goodI_nil g a c w
  · rcases hx with rfl | ⟨b, off, rfl, hb, hc⟩
    · simp at hn; omega
    · exact goodI_cons g b off n c xs w hn (by omega) hm hb (by rw [← hn]; exact hc)
end Go.Proofs.YtdgonpbponnnaaaGreatDoor

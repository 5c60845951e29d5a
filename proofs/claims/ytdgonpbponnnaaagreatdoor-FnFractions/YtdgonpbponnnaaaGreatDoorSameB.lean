/- The laws' comparing functions sameInts, sameBig and zeroBig. No condition beyond those typed. -/
import Derived.Test.YtdgonpbponnnaaaGreatDoorEq
import Derived.Test.YtdgonpbponnnaaaGreatDoorFlat
namespace Go.Proofs.YtdgonpbponnnaaaGreatDoor
open Go.RowKit
set_option linter.unusedVariables false
set_option maxRecDepth 100000
set_option linter.unusedSimpArgs false

theorem smI_nil (a a' : Option Addr) (c c' : Nat) (w : World) :
    Calls Tryz.prog 75 #[.slice a 0 c, .slice a' 0 c'] w fun e w' => e = .returned (.bool true) ∧ Below w.heap.size w w' := by
  go_enter Tryz.func75, Tryz.ntmps75
  go_wp2
  refine wp_loop_rounds 1 ?_
  rw [rounds_succ]
  go_wp2
  go_ret
  exact ⟨rfl, Below.refl _ _⟩

set_option maxHeartbeats 1000000 in
theorem smI_cons (b off b' off' n c c' : Nat) (xs : List Int) (w : World) (hm : n ≤ maxLen) (h0 : 0 < n) (hb : b < w.heap.size) (hb' : b' < w.heap.size)
    (hc : ∀ i, i < n → w.cell? ⟨b, off + i, none⟩ = some (.int .i64 (xs.getD i 0))) (hc' : ∀ i, i < n → w.cell? ⟨b', off' + i, none⟩ = some (.int .i64 (xs.getD i 0))) :
    Calls Tryz.prog 75 #[.slice (some ⟨b, off, none⟩) n c, .slice (some ⟨b', off', none⟩) n c'] w fun e w' => e = .returned (.bool true) ∧ Below w.heap.size w w' := by
  unfold maxLen at hm
  have HC := hide hc
  have HC' := hide hc'
  clear hc hc'
  go_enter Tryz.func75, Tryz.ntmps75
  go_wp2
  go_loopw [13] (fun i wr => ∃ k : Nat, k ≤ n ∧ i = .int .i64 k ∧ Below w.heap.size w wr) (fun i _ => n - (intOf i).toNat)
  case atStart => exact ⟨0, Nat.zero_le _, rfl, Below.refl _ _⟩
  case round =>
    obtain ⟨k, hk, rfl, hbel⟩ := hrel
    by_cases hlt : k < n
    · have hk1 : (k : Int) < (n : Int) := by omega
      have e1 : wr.cell? ⟨b, off + k, none⟩ = some (.int .i64 (xs.getD k 0)) := (hbel.cell (by exact hb)).trans (unhide HC k hlt)
      have e2 : wr.cell? ⟨b', off' + k, none⟩ = some (.int .i64 (xs.getD k 0)) := (hbel.cell (by exact hb')).trans (unhide HC' k hlt)
      generalize xs.getD k 0 = x at e1 e2
      have HB := hide hbel
      clear hbel
      go_wp2
      go_quiet (fail)
      go_wp2
      go_roundw
      case rel => exact ⟨k + 1, by omega, by go_num, below_drewN (unhide HB) _⟩
      case measure => simp [intOf]; omega
    · go_wp2
      go_ret
      exact ⟨rfl, hbel⟩

theorem smI_same (a a' : Option Addr) (n c c' : Nat) (xs : List Int) (w : World) (hx : Sl w a xs) (hx' : Sl w a' xs) (hn : xs.length = n) (hm : n ≤ maxLen) :
    Calls Tryz.prog 75 #[.slice a n c, .slice a' n c'] w fun e w' => e = .returned (.bool true) ∧ Below w.heap.size w w' := by
  by_cases h0 : n = 0
  · subst h0
    exact smI_nil a a' c c' w
  · rcases hx with rfl | ⟨b, off, rfl, hb, hc⟩
    · simp at hn; omega
    rcases hx' with rfl | ⟨b', off', rfl, hb', hc'⟩
    · simp at hn; omega
    exact smI_cons b off b' off' n c c' xs w hm (by omega) hb hb' (by rw [← hn]; exact hc) (by rw [← hn]; exact hc')


theorem sameB (b b' : BV) (d : BD) (w : World) (h : AllSl w [(b, d)]) (h' : AllSl w [(b', d)]) (hm : d.xs.length ≤ 1048576) :
    Calls Tryz.prog 42 #[.agg #[.bool b.g, .slice b.a b.n b.c], .agg #[.bool b'.g, .slice b'.a b'.n b'.c]] w fun e w' => e = .returned (.bool true) ∧ Below w.heap.size w w' := by
  obtain ⟨g, a, n, c⟩ := b
  obtain ⟨g', a', n', c'⟩ := b'
  obtain ⟨gd, xs⟩ := d
  have k := h _ (List.mem_singleton.2 rfl)
  have k' := h' _ (List.mem_singleton.2 rfl)
  have e0 : g = gd := k.sg
  have e1 : g' = gd := k'.sg
  have hx : Sl w a xs := k.sl
  have hx' : Sl w a' xs := k'.sl
  have hn : xs.length = n := k.len
  have hn' : xs.length = n' := k'.len
  have hm2 : xs.length ≤ 1048576 := hm
  clear k k' hm h h'
  subst e0 e1
  obtain rfl : n = n' := hn.symm.trans hn'
  have HX := hide hx
  have HX' := hide hx'
  have HN := hide hn
  have HM : Hid (n ≤ maxLen) := hide (by unfold maxLen; omega)
  clear hx hx' hn hn' hm2
  go_enter Tryz.func42, Tryz.ntmps42
  go_wp2_with fail
  refine (smI_same a a' n c c' xs _ ((unhide HX).later (Nat.le_refl _) (by exact ((Below.refl _ _).alloc (Nat.le_refl _) _).alloc (by simp) _)) ((unhide HX').later (Nat.le_refl _) (by exact ((Below.refl _ _).alloc (Nat.le_refl _) _).alloc (by simp) _)) (unhide HN) (unhide HM)).mono ?_
  rintro e w1 ⟨rfl, hb⟩
  go_wp2
  go_ret
  exact ⟨rfl, (((Below.refl _ _).alloc (Nat.le_refl _) _).alloc (by simp) _).trans (hb.mono (by simp; omega))⟩
end Go.Proofs.YtdgonpbponnnaaaGreatDoor

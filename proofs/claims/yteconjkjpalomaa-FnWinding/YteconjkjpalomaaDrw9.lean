/- The draws of chapter 9's laws. No condition beyond those typed. Written by mkdrw9.py. -/
import Derived.Test.YteconjkjpalomaaDrw8
namespace Go.Proofs.Yteconjkjpalomaa
open Go.RowKit
set_option linter.unusedVariables false
set_option maxRecDepth 100000
set_option linter.unusedSimpArgs false

set_option maxHeartbeats 4000000 in
theorem drawOW (a : Option Addr) (n c : Nat) (w : World) (h : ArY w a n) :
    Calls Try.prog 17 #[.slice a n c] w (OutWP w) := by
  have e0 : (w.alloc (.cells #[.int .i64 0, .int .i64 0] 25)).heap.size = w.heap.size + 1 := by simp
  have CU : Hid (Cur (w.heap.size + 1) 0 ((w.alloc (.cells #[.int .i64 0, .int .i64 0] 25)).alloc (.cells #[.slice a n c, .int .i64 0, .int .u64 0] 54))) := hide (e0 ▸ Cur.new (w := (w.alloc (.cells #[.int .i64 0, .int .i64 0] 25))) (h.later ((Below.refl _ _).alloc (Nat.le_refl _) _)))
  have BW : Hid (Below w.heap.size w ((w.alloc (.cells #[.int .i64 0, .int .i64 0] 25)).alloc (.cells #[.slice a n c, .int .i64 0, .int .u64 0] 54))) := hide (((Below.refl _ _).alloc (Nat.le_refl _) _).alloc (by simp) _)
  have z0 : w.heap.size = w.heap.size := by simp
  have R0 : Hid (BxP ((w.alloc (.cells #[.int .i64 0, .int .i64 0] 25)).alloc (.cells #[.slice a n c, .int .i64 0, .int .u64 0] 54)) (w.heap.size) 0 0) := hide (z0 ▸ (BxP.new.later ((Below.refl _ _).alloc (Nat.le_refl _) _)))
  clear z0
  have s0 : w.heap.size + 1 + 1 ≤ ((w.alloc (.cells #[.int .i64 0, .int .i64 0] 25)).alloc (.cells #[.slice a n c, .int .i64 0, .int .u64 0] 54)).heap.size := by simp
  clear h e0
  go_enter Try.func17, Try.ntmps17
  go_wp2_with fail
  refine (way_v (w.heap.size + 1) 0 _ (unhide CU) (by omega)).mono ?_
  rintro e w1 ⟨a1, m1, c1', l, rfl, ar, nr, hm, at_, c1, bt⟩
  have CU2 := hide c1
  have BW2 := hide (bt.below (unhide BW) (by omega) (by omega))
  have RR0 := hide ((unhide R0).keep bt (.inl (by omega)))
  have ss := bt.size
  have AR := hide ar
  have NR := hide nr
  have AT : Hid (∃ G, a1 = some ⟨G, 0, none⟩ ∧ w.heap.size + 1 < G) := hide (by obtain ⟨G, e, h⟩ := at_; exact ⟨G, e, by omega⟩)
  clear ar nr at_
  clear CU BW R0 bt c1
  have CU := CU2
  have BW := BW2
  have R0 := RR0
  clear CU2 BW2 RR0
  have sw1 := Nat.le_trans s0 ss
  clear ss
  go_wp2_with fail
  refine (pt_v (w.heap.size + 1) 200 _ (unhide CU) (by omega)).mono ?_
  rintro e w2 ⟨p, rfl, np, c1, bt⟩
  have CU2 := hide c1
  have BW2 := hide (bt.below (unhide BW) (by omega) (by omega))
  have RR0 := hide ((unhide R0).keep bt (.inl (by omega)))
  have ss := bt.size
  have NP := hide np
  have AR2 := hide (ar_but8 (unhide AR) bt (unhide AT))
  clear np AR
  clear CU BW R0 bt c1
  have CU := CU2
  have BW := BW2
  have R0 := RR0
  clear CU2 BW2 RR0
  have sw2 := Nat.le_trans sw1 ss
  clear ss
  have r00 := (unhide R0).c0
  have r01 := (unhide R0).c1
  have rf0 := (unhide R0).fz
  have sb := set_below8 (w := w2) (B := w.heap.size) (G := w.heap.size) (u := .int .i64 p.1) (v := .int .i64 p.2) (Nat.le_refl _) (by omega)
  have F0 := hide ((unhide BW).trans sb)
  have AR3 : Hid (ArP ((w2.setCell ⟨w.heap.size, 0, none⟩ (.int .i64 p.1)).setCell ⟨w.heap.size, 1, none⟩ (.int .i64 p.2)) a1 m1 c1' l) := hide (ar_but8 (C := w.heap.size) (unhide AR2) but_rowP8 (by obtain ⟨G, e, h⟩ := unhide AT; exact ⟨G, e, by omega⟩))
  clear R0 CU BW sb AR2
  go_wp2_with fail
  refine bodyPost_ret (v := .tuple #[.slice a1 m1 c1', .agg #[.int .i64 p.1, .int .i64 p.2]]) (by simp [results, Try.results17, go_sem, r00, r01]) rfl ?_
  exact ⟨a1, m1, c1', l, p, rfl, unhide AR3, unhide NR, hm, unhide NP, unhide F0⟩
def OutSW (w : World) (e : Ending) (w' : World) : Prop := ∃ (a : Option Addr) (n c : Nat) (l : List (Int × Int)) (x y : Int), e = .returned (.tuple #[.slice a n c, .int .i64 x, .int .i64 y]) ∧ ArP w' a n c l ∧ (∀ p ∈ l, Near p) ∧ n ≤ 20 ∧ (0 ≤ x ∧ x ≤ 100000) ∧ (0 ≤ y ∧ y ≤ 200000) ∧ Below w.heap.size w w'
end Go.Proofs.Yteconjkjpalomaa

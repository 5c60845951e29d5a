/- IntOf of the specification, and the walk through the law FnExactIntOf: it returns true. No condition beyond those typed. -/
import Derived.Test.YtifiphoapjjhiaaIntOf
import Derived.Test.YtifiphoapjjhiaaLaw2
namespace Go.Proofs.Ytifiphoapjjhiaa
open Go.RowKit
set_option linter.unusedVariables false
set_option linter.unusedSimpArgs false

set_option maxHeartbeats 8000000 in
theorem intS_loop (g : Bool) (a : Option Addr) (n c : Nat) (xs : List Int) (w : World) (hx : Arg w a n c xs) (hg : goodB g xs = true) (hn4 : n ≤ 4) :
    Calls Try.prog 30 #[.agg #[.bool g, .slice a n c]] w fun e w' => e = .returned (.tuple #[.int .i64 (intV g xs), .bool (intOk g xs)]) ∧ Below w.heap.size w w' := by
  have HX := hide hx
  have HG := hide hg
  have ox := (good_parts hg).1
  have TX := hide (good_parts hg).2.1
  clear hx
  have d1 : ¬ ((4 : Int) < (n : Int)) := by omega
  go_enter Try.func30, Try.ntmps30
  go_wp2_with fail
  refine (goodS_any g a n c xs _ ((unhide HX).later ((Below.refl _ _).alloc (Nat.le_refl _) _)).sl (unhide HX).len (Nat.le_trans (unhide HX).cap (unhide HX).top)).mono ?_
  rintro e w1 ⟨rfl, hb1⟩
  have x0 : w1.cell? ⟨w.heap.size, 0, none⟩ = some (.bool g) := cell_later hb1 (by simp [go_sem])
  have x1 : w1.cell? ⟨w.heap.size, 1, none⟩ = some (.slice a n c) := cell_later hb1 (by simp [go_sem])
  have HB := hide (below_one' hb1)
  clear hb1
  rw [hg]
  clear hg
  go_wp2_with fail
  refine (bigOfS_any _ w1 (by omega) (by omega)).mono ?_
  rintro e w2 ⟨a2, n2, c2, zs, rfl, hb2, ho2, ha2, hn2⟩
  have AL : Hid (∀ o, Below w2.heap.size w2 (w2.alloc o)) := hide (fun o => (Below.refl _ _).alloc (Nat.le_refl _) _)
  replace x0 := cell_later hb2 x0
  replace x1 := cell_later hb2 x1
  replace HB := hide (below_on (unhide HB) hb2)
  have HA2 := hide ha2
  have HZ : Hid (Nm zs 4611686018427387904) := hide (by simpa using hn2)
  have SX := hide ((unhide HX).later (unhide HB))
  have hzz : w.heap.size < w2.heap.size := World.block_lt_of_cell? _ _ x1
  clear hb2 ho2 ha2 hn2
  go_wp2_with fail
  refine (cmpS_any a a2 n n2 c c2 xs zs _ ((unhide SX).later (unhide AL _)).sl ((unhide HA2).later (unhide AL _)).sl (unhide HX).len (unhide HA2).len (Nat.le_trans (unhide HX).cap (unhide HX).top) (Nat.le_trans (unhide HA2).cap (unhide HA2).top)).mono ?_
  rintro e w3 ⟨rfl, hb3⟩
  have CV := hide (cmpL_val ox (unhide HZ).ok (unhide TX) (unhide HZ).tr)
  have B3 := hide (below_on (unhide AL _) hb3)
  replace x0 := cell_later (unhide B3) x0
  replace x1 := cell_later (unhide B3) x1
  replace HB := hide (below_on (unhide HB) (unhide B3))
  replace SX := hide ((unhide SX).later (unhide B3))
  clear hb3 B3 AL
  generalize cmpL xs zs = cm at *
  have hcm : 0 < cm ↔ 4611686018427387904 < val xs := by have := (unhide CV).2; rw [(unhide HZ).v] at this; exact this
  by_cases hbig : 0 < cm
  · have h2 := hide (int_great (g := g) (xs := xs) (hcm.1 hbig))
    clear hcm
    go_wp2
    go_ret2
    exact ⟨ret_pair (int_no (unhide h2)).symm (unhide h2).symm, unhide HB⟩
  · have hfit : val xs ≤ 4611686018427387904 := by omega
    have h2 := hide (int_fits (unhide HG) hfit)
    have HFit := hide hfit
    clear hcm hfit
    go_wp2
    go_loop [5, 6] (fun nv iv => ∃ (k : Nat) (N : Int), k ≤ n ∧ iv = .int .i64 ((k : Int) - 1) ∧ nv = .int .i64 N ∧ 0 ≤ N ∧ N ≤ 4611686018427387904 ∧ Hid (N = val (xs.drop k))) (fun _ iv => (intOf iv + 1).toNat)
    case atStart => exact ⟨n, 0, Nat.le_refl _, rfl, rfl, by omega, by omega, hide (by rw [List.drop_of_length_le (by rw [(unhide HX).len]; exact Nat.le_refl _)]; rfl)⟩
    case round =>
      obtain ⟨k, N, hk, hi, rfl, N0, N1, HN⟩ := hrel
      cases k with
      | zero =>
        have e : (((0 : Nat) : Int) - 1) = -1 := by omega
        rw [e] at hi
        subst hi
        have HNv : Hid (N = val xs) := hide (by rw [unhide HN]; rfl)
        cases g
        · go_wp2
          go_ret2
          exact ⟨ret_pair (by rw [int_yes (unhide h2), unhide HNv]; rfl) (unhide h2).symm, unhide HB⟩
        · go_wp2
          go_ret2
          exact ⟨ret_pair (by rw [int_yes (unhide h2), unhide HNv]; rfl) (unhide h2).symm, unhide HB⟩
      | succ j =>
        have e : (((j + 1 : Nat) : Int) - 1) = j := by omega
        rw [e] at hi
        subst hi
        obtain ⟨b, off, rfl, hcx⟩ := (unhide SX).sl.at (k := j) (by rw [(unhide HX).len]; omega)
        have hxb := okL_get ox j
        have HD := hide (drop_succ (xs := xs) (k := j) (by rw [(unhide HX).len]; omega))
        have HL := hide (Int.le_trans (val_drop_le ox j) (unhide HFit))
        generalize xs.getD j 0 = x at *
        obtain ⟨hx0, hx1⟩ := hxb
        have hk1 : (j : Int) < (n : Int) := by omega
        have hN : N * 65536 + x ≤ 4611686018427387904 := by have h7 := unhide HL; rw [unhide HD, ← unhide HN] at h7; omega
        clear e
        go_wp2
        go_round
        case rel => exact ⟨j, _, by omega, rfl, rfl, by omega, by omega, hide (by rw [unhide HD, ← unhide HN]; omega)⟩
        case measure => simp [intOf]
set_option maxHeartbeats 4000000 in
theorem intS_any (g : Bool) (a : Option Addr) (n c : Nat) (xs : List Int) (w : World) (hx : Arg w a n c xs) (h1 : n ≤ 1048576) :
    Calls Try.prog 30 #[.agg #[.bool g, .slice a n c]] w fun e w' => e = .returned (.tuple #[.int .i64 (intV g xs), .bool (intOk g xs)]) ∧ Below w.heap.size w w' := by
  cases hg : goodB g xs
  · have h2 := int_bad hg
    rw [int_no h2, h2]
    have HX := hide hx
    clear hx h2
    go_enter Try.func30, Try.ntmps30
    go_wp2_with fail
    refine (goodS_any g a n c xs _ ((unhide HX).later ((Below.refl _ _).alloc (Nat.le_refl _) _)).sl (unhide HX).len (Nat.le_trans (unhide HX).cap (unhide HX).top)).mono ?_
    rintro e w1 ⟨rfl, hb1⟩
    rw [hg]
    have HB := hide (below_one' hb1)
    clear hb1 hg
    go_wp2
    go_ret2
    exact ⟨rfl, unhide HB⟩
  · by_cases h4 : n ≤ 4
    · exact intS_loop g a n c xs w hx hg h4
    · have h2 := int_long hg (by rw [hx.len]; omega)
      rw [int_no h2, h2]
      have HX := hide hx
      clear hx h2
      have d1 : (4 : Int) < (n : Int) := by omega
      go_enter Try.func30, Try.ntmps30
      go_wp2_with fail
      refine (goodS_any g a n c xs _ ((unhide HX).later ((Below.refl _ _).alloc (Nat.le_refl _) _)).sl (unhide HX).len (Nat.le_trans (unhide HX).cap (unhide HX).top)).mono ?_
      rintro e w1 ⟨rfl, hb1⟩
      rw [hg]
      have x1 : w1.cell? ⟨w.heap.size, 1, none⟩ = some (.slice a n c) := cell_later hb1 (by simp [go_sem])
      have HB := hide (below_one' hb1)
      clear hb1 hg
      go_wp2
      go_ret2
      exact ⟨rfl, unhide HB⟩

set_option maxHeartbeats 1000000 in
theorem lawInt_out (g : Bool) (a : Option Addr) (n c : Nat) (w : World) (hm : n ≤ maxLen) (h : 1048576 < n) :
    Calls Try.prog 6 #[.agg #[.bool g, .slice a n c]] w fun e w' => e = .returned (.bool true) ∧ Below w.heap.size w w' := by
  go_enter Try.func6, Try.ntmps6
  go_wp2_with fail
  refine (sz_out g a n c _ _ (by omega) (by omega) hm (by omega)).mono ?_
  rintro e w1 ⟨rfl, hb⟩
  go_wp2
  go_ret
  exact ⟨rfl, below_one' hb⟩

set_option maxHeartbeats 4000000 in
theorem lawInt_in (g : Bool) (a : Option Addr) (n c : Nat) (xs : List Int) (w : World) (hx : Sl w a xs) (hn : xs.length = n) (h : n ≤ 1048576) :
    Calls Try.prog 6 #[.agg #[.bool g, .slice a n c]] w fun e w' => e = .returned (.bool true) ∧ Below w.heap.size w w' := by
  have hm : n ≤ maxLen := by unfold maxLen; omega
  have HX := hide hx
  have HN := hide hn
  clear hx hn
  have hd : ¬ ((1048576 : Int) - (n : Int) < 0) := by omega
  go_enter Try.func6, Try.ntmps6
  go_wp2_with fail
  refine (sz_in g a n c _ _ (by omega) (by omega) (by omega)).mono ?_
  rintro e w1 ⟨rfl, hb1⟩
  have a0 : w1.cell? ⟨w.heap.size, 0, none⟩ = some (.bool g) := cell_later hb1 (by simp [go_sem])
  have a1 : w1.cell? ⟨w.heap.size, 1, none⟩ = some (.slice a n c) := cell_later hb1 (by simp [go_sem])
  have HB := hide (below_one' hb1)
  have X1 := hide ((unhide HX).later (Nat.le_refl _) (unhide HB))
  clear hb1
  go_wp2_with fail
  refine (to_any g a n c xs w1 (unhide X1) (unhide HN) h).mono ?_
  rintro e w2 ⟨b2, rfl, hb2, hle2, own2⟩
  have S2 := hide (arg_of_owns own2 (unhide HN) h)
  replace HB := hide (below_on (unhide HB) hb2)
  replace X1 := hide ((unhide X1).later (Nat.le_refl _) hb2)
  replace a0 := cell_later hb2 a0
  replace a1 := cell_later hb2 a1
  clear hb2 own2
  go_wp2_with fail
  refine (intS_any g _ n n xs w2 (unhide S2) h).mono ?_
  rintro e w3 ⟨rfl, hb3⟩
  replace HB := hide (below_on (unhide HB) hb3)
  replace X1 := hide ((unhide X1).later (Nat.le_refl _) hb3)
  replace a0 := cell_later hb3 a0
  replace a1 := cell_later hb3 a1
  clear hb3 S2
  go_wp2_with fail
  refine (to_any g a n c xs w3 (unhide X1) (unhide HN) h).mono ?_
  rintro e w4 ⟨b4, rfl, hb4, hle4, own4⟩
  have VX := hide (Var.start (g := g) (c := n) 25 (Own.of_owns own4 (unhide HN)) (unhide HN))
  have AL := hide (show Below w4.heap.size w4 (w4.alloc (.cells #[.bool g, .slice (some ⟨b4, 0, none⟩) n n] 25)) from (Below.refl _ _).alloc (Nat.le_refl _) _)
  replace HB := hide (below_on (below_on (unhide HB) hb4) (unhide AL))
  replace X1 := hide (((unhide X1).later (Nat.le_refl _) hb4).later (Nat.le_refl _) (unhide AL))
  replace a0 := cell_later hb4 a0
  replace a1 := cell_later hb4 a1
  clear hb4 own4
  go_wp2_with fail
  refine (intI_any g _ n n xs _ ((unhide VX).arg (Nat.le_refl _) hm (.inr ⟨_, _, rfl⟩)) h).mono ?_
  rintro e w5 ⟨rfl, hb5⟩
  replace a0 : w5.cell? ⟨w.heap.size, 0, none⟩ = some (.bool g) := cell_later hb5 (cell_later (unhide AL) a0)
  replace a1 : w5.cell? ⟨w.heap.size, 1, none⟩ = some (.slice a n c) := cell_later hb5 (cell_later (unhide AL) a1)
  replace HB := hide (below_on (unhide HB) hb5)
  replace X1 := hide ((unhide X1).later (Nat.le_refl _) hb5)
  replace VX := hide ((unhide VX).later hb5)
  clear hb5 AL
  generalize w4.heap.size = G at *
  have x0 := (unhide VX).c0
  have x1 := (unhide VX).c1
  go_wp2_with fail
  go_region_held3 (fun w' => w'.cell? ⟨w.heap.size, 0, none⟩ = some (.bool g) ∧ w'.cell? ⟨w.heap.size, 1, none⟩ = some (.slice a n c) ∧ w'.cell? ⟨G, 0, none⟩ = some (.bool g) ∧ w'.cell? ⟨G, 1, none⟩ = some (.slice (some ⟨b4, 0, none⟩) n n)) (refine ⟨?_, ?_, ?_, ?_⟩ <;> assumption)
    (first
    | (go_at_call 33; refine (to_any g a n c xs _ ?_ (unhide HN) h).mono ?_; exact (unhide X1).drew; rintro e w6 ⟨b6, rfl, hb6', hle6, own6⟩; have hb6 := below_of_drew hb6'; have k0 := cell_later hb6 a0; have k1 := cell_later hb6 a1; have V6 := hide ((unhide VX).later hb6); have k2 := (unhide V6).c0; have k3 := (unhide V6).c1; have S6 := hide (Sl.of_owns own6 (unhide HN)); have HB6 := hide (below_on (unhide HB) hb6); clear hb6 hb6' own6)
    | (go_at_call 35; refine (eq_same g _ _ n n n xs _ ?_ ?_ (unhide HN) hm).mono ?_; exact (unhide V6).own.sl; exact unhide S6; rintro e w7 ⟨rfl, hb7⟩; have m0 := cell_later hb7 k0; have m1 := cell_later hb7 k1; have m2 := cell_later hb7 k2; have m3 := cell_later hb7 k3; have HB7 := hide (below_on (unhide HB6) hb7); clear hb7))
  go_wp2
  go_ret
  exact ⟨rfl, unhide HB7⟩

theorem lawInt_walk (g : Bool) (a : Option Addr) (n c : Nat) (xs : List Int) (w : World) (hx : Sl w a xs) (hn : xs.length = n) (hm : n ≤ maxLen) :
    Calls Try.prog 6 #[.agg #[.bool g, .slice a n c]] w fun e w' => e = .returned (.bool true) ∧ Below w.heap.size w w' := by
  by_cases h : n ≤ 1048576
  · exact lawInt_in g a n c xs w hx hn h
  · exact lawInt_out g a n c w hm (by omega)
end Go.Proofs.Ytifiphoapjjhiaa

/- The cursor of the draws: each byte that it tells, and each number below a bound. No condition beyond those typed. -/
import Derived.Deep.QuietTactic
import Derived.BigQuiet
import Derived.Test.YtdgonpbponnnaaaGreatDoorFlat
namespace Go.Proofs.YtdgonpbponnnaaaGreatDoor
open Go.RowKit
set_option linter.unusedVariables false
set_option maxRecDepth 100000
set_option linter.unusedSimpArgs false

/-- Bytes that lie in a block below C. -/
def Sb (w : World) (C : Nat) (a : Option Addr) (n : Nat) : Prop := n = 0 ∨ ∃ b off, a = some ⟨b, off, none⟩ ∧ b < C ∧ ∀ i, i < n → ∃ x : Int, 0 ≤ x ∧ x ≤ 255 ∧ w.cell? ⟨b, off + i, none⟩ = some (.int .u8 x)
/-- A cursor over bytes, that has told at most T. -/
structure Cur (C T : Nat) (w : World) : Prop where
  hd : ∃ a n c, w.cell? ⟨C, 0, none⟩ = some (.slice a n c) ∧ n ≤ 9223372036854775807 ∧ Sb w C a n
  pos : ∃ i : Int, 0 ≤ i ∧ i ≤ T ∧ w.cell? ⟨C, 1, none⟩ = some (.int .i64 i)
  sd : ∃ s : Int, w.cell? ⟨C, 2, none⟩ = some (.int .u64 s)
  fz : ∀ o, w.frozen? ⟨C, o, none⟩ = false
theorem Sb.keep {w w' : World} {C : Nat} {a : Option Addr} {n : Nat} (h : Sb w C a n) (hb : But C (C + 1) w w') : Sb w' C a n := by
  rcases h with h | ⟨b, off, ea, hl, hc⟩
  · exact .inl h
  · refine .inr ⟨b, off, ea, hl, fun i hi => ?_⟩
    obtain ⟨x, x0, x1, e⟩ := hc i hi
    exact ⟨x, x0, x1, hb.cell e (.inl hl)⟩
theorem Cur.mono {C T T' : Nat} {w : World} (h : Cur C T w) (hT : T ≤ T') : Cur C T' w := by
  obtain ⟨i, i0, i1, e⟩ := h.pos
  exact ⟨h.hd, ⟨i, i0, by omega, e⟩, h.sd, h.fz⟩
theorem Cur.later {C T : Nat} {w w' : World} (h : Cur C T w) (hb : Below w.heap.size w w') : Cur C T w' := by
  obtain ⟨a, n, c, e0, hn, sb⟩ := h.hd
  obtain ⟨i, i0, i1, e1⟩ := h.pos
  obtain ⟨s, e2⟩ := h.sd
  exact ⟨⟨a, n, c, cell_later hb e0, hn, sb.keep (But.of_below hb)⟩, ⟨i, i0, i1, cell_later hb e1⟩, ⟨s, cell_later hb e2⟩, fun o => frozen_later hb (World.block_lt_of_cell? _ _ e0) (h.fz o)⟩

theorem emod_le_pos {x n : Int} (h : 0 ≤ x) (h1 : 0 ≤ n) : x % n ≤ x := by
  have h2 := Int.mul_ediv_add_emod x n
  have h3 : 0 ≤ n * (x / n) := Int.mul_nonneg h1 (Int.ediv_nonneg h h1)
  omega
theorem emod_le_me {x : Int} (n : Int) (h : 0 ≤ x) : x % n ≤ x := by
  rcases Int.lt_or_le n 0 with h1 | h1
  · rw [← Int.emod_neg]; exact emod_le_pos h (by omega)
  · exact emod_le_pos h h1
theorem But.drewM {lo hi : Nat} {w w' : World} (h : But lo hi w w') (N : Nat) : But lo hi w (w'.drewN N) := ⟨h.os, h.tape, h.output, h.size, h.block⟩
theorem and_255 (n : Int) : bits .and .u64 n 255 = n % 256 := by
  have h16 : (BitVec.ofInt 64 255).toNat = 2 ^ 8 - 1 := by decide
  have key : (BitVec.ofInt 64 n &&& BitVec.ofInt 64 255).toNat = (n % ((2 ^ 64 : Nat) : Int)).toNat % 2 ^ 8 := by
    rw [BitVec.toNat_and, BitVec.toNat_ofInt, h16, Nat.and_two_pow_sub_one_eq_mod]
  show IntKind.u64.wrap ((BitVec.ofInt 64 n &&& BitVec.ofInt 64 255).toNat : Nat) = n % 256
  rw [key, IntKind.wrap_u64]
  omega
theorem byte_255 (n : Int) : wrap64 (bits .and .u64 n 255) = n % 256 := by
  rw [and_255]
  unfold wrap64
  omega
theorem cur_set {C T : Nat} {w : World} (h : Cur C T w) {j : Int} (h0 : 0 ≤ j) (h1 : j ≤ T + 1) (t : Int) (k m : Nat) : Cur C (T + 1) ((((w.drewN k).setCell ⟨C, 1, none⟩ (.int .i64 j)).setCell ⟨C, 2, none⟩ (.int .u64 t)).drewN m) ∧ But C (C + 1) w ((((w.drewN k).setCell ⟨C, 1, none⟩ (.int .i64 j)).setCell ⟨C, 2, none⟩ (.int .u64 t)).drewN m) := by
  obtain ⟨⟨a, n, c, e0, hn, sb⟩, ⟨i, i0, i1, e1⟩, ⟨s, e2⟩, fz⟩ := h
  have hb : But C (C + 1) w ((((w.drewN k).setCell ⟨C, 1, none⟩ (.int .i64 j)).setCell ⟨C, 2, none⟩ (.int .u64 t)).drewN m) := ((((But.refl _ _ w).drewM k).set (p := ⟨C, 1, none⟩) (Nat.le_refl _) (Nat.lt_succ_self _) _).set (p := ⟨C, 2, none⟩) (Nat.le_refl _) (Nat.lt_succ_self _) _).drewM m
  refine ⟨⟨⟨a, n, c, ?_, hn, sb.keep hb⟩, ⟨j, h0, h1, ?_⟩, ⟨t, ?_⟩, fun o => ?_⟩, hb⟩
  · simp [go_sem, e0, e1, e2]
  · simp [go_sem, e0, e1, e2]
  · simp [go_sem, e0, e1, e2]
  · simp [go_sem, fz]
set_option maxHeartbeats 4000000 in
theorem next_v (C T : Nat) (w : World) (h : Cur C T w) (hT : T ≤ 1000000) :
    Calls Tryz.prog 106 #[.pointer (some ⟨C, 0, none⟩)] w fun e w' => ∃ x : Int, e = .returned (.int .i64 x) ∧ 0 ≤ x ∧ x ≤ 255 ∧ Cur C (T + 1) w' ∧ But C (C + 1) w w' := by
  have HCu := hide h
  obtain ⟨⟨a, n, c, e0, hn, sb⟩, ⟨i, i0, i1, e1⟩, ⟨s, e2⟩, fz⟩ := h
  by_cases hin : i < n
  · rcases sb with h | ⟨b, off, rfl, hl, hc⟩
    · exact absurd hin (by omega)
    obtain ⟨x, x0, x1, ex⟩ := hc i.toNat (by omega)
    have HC := hide hc
    clear hc
    have hne : b ≠ C := by omega
    have w1 : IntKind.i64.wrap (i + 1) = i + 1 := by rw [IntKind.wrap_i64]; omega
    have d1 : decide (i < (n : Int)) = true := by simp; omega
    have d2 : decide (i + 1 ≤ (n : Int)) = true := by simp; omega
    go_enter Tryz.func106, Tryz.ntmps106
    go_wp2
    go_quiet (fail)
    go_wp2
    go_quiet (fail)
    go_wp2
    go_quiet (fail)
    go_wp2
    go_ret
    have k := cur_set (unhide HCu) (j := i + 1) (by omega) (by omega) (IntKind.u64.wrap (IntKind.u64.wrap (IntKind.u64.wrap (s * 6364136223846793005) + x) + 1442695040888963407))
    exact ⟨x, rfl, x0, x1, (k _ _).1, (k _ _).2⟩
  · have w1 : IntKind.i64.wrap (i + 1) = i + 1 := by rw [IntKind.wrap_i64]; omega
    have d1 : decide (i < (n : Int)) = false := by simp; omega
    have d2 : decide (i + 1 ≤ (n : Int)) = false := by simp; omega
    go_enter Tryz.func106, Tryz.ntmps106
    go_wp2
    go_quiet (fail)
    go_wp2
    go_quiet (fail)
    go_wp2
    go_ret
    have k := cur_set (unhide HCu) (j := i + 1) (by omega) (by omega) (IntKind.u64.wrap (IntKind.u64.wrap (IntKind.u64.wrap (s * 6364136223846793005)) + 1442695040888963407))
    exact ⟨_, by rw [byte_255]; rfl, Int.emod_nonneg _ (by omega), by have := Int.emod_lt_of_pos ((IntKind.u64.wrap (IntKind.u64.wrap (IntKind.u64.wrap (s * 6364136223846793005)) + 1442695040888963407)) / 1099511627776) (show (0 : Int) < 256 by omega); omega, (k _ _).1, (k _ _).2⟩
set_option maxHeartbeats 4000000 in
theorem pick_v (C T : Nat) (n : Int) (w : World) (h : Cur C T w) (hT : T ≤ 999999) (h1 : n ≤ 1000000) :
    Calls Tryz.prog 82 #[.pointer (some ⟨C, 0, none⟩), .int .i64 n] w fun e w' => ∃ x : Int, e = .returned (.int .i64 x) ∧ 0 ≤ x ∧ (1 ≤ n → x < n) ∧ x ≤ 65535 ∧ Cur C (T + 2) w' ∧ But C (C + 1) w w' := by
  have HC := hide h
  clear h
  by_cases n1 : n ≤ 1
  · have d1 : decide (n ≤ 1) = true := by simp; omega
    go_enter Tryz.func82, Tryz.ntmps82
    go_wp2_with fail
    go_ret
    exact ⟨0, rfl, Int.le_refl _, fun h => by omega, by omega, (unhide HC).mono (by omega), But.refl _ _ _⟩
  · have d1 : decide (n ≤ 1) = false := by simp; omega
    have z1 : n ≠ 0 := by omega
    have z2 : (n == 0) = false := by simp; omega
    by_cases n2 : n > 200
    · have d2 : decide (200 < n) = true := by simp; omega
      go_enter Tryz.func82, Tryz.ntmps82
      go_wp2_with fail
      refine (next_v C T w (unhide HC) (by omega)).mono ?_
      rintro e w1 ⟨x, rfl, x0, x1, c1, b1⟩
      have xw : IntKind.i64.wrap (x * 256) = x * 256 := by rw [IntKind.wrap_i64]; omega
      replace HC := hide c1
      have HB := hide b1
      clear c1 b1
      go_wp2_with fail
      refine (next_v C (T + 1) w1 (unhide HC) (by omega)).mono ?_
      rintro e w2 ⟨y, rfl, y0, y1, c1, b1⟩
      have yw : IntKind.i64.wrap (x * 256 + y) = x * 256 + y := by rw [IntKind.wrap_i64]; omega
      replace HC := hide c1
      replace HB := hide ((unhide HB).trans b1)
      clear c1 b1
      go_wp2_with fail
      go_ret
      exact ⟨_, rfl, Int.emod_nonneg _ (by omega), fun _ => Int.emod_lt_of_pos _ (by omega), by have := emod_le_me n (show 0 ≤ x * 256 + y by omega); omega, (unhide HC).mono (by omega), unhide HB⟩
    · have d2 : decide (200 < n) = false := by simp; omega
      go_enter Tryz.func82, Tryz.ntmps82
      go_wp2_with fail
      refine (next_v C T w (unhide HC) (by omega)).mono ?_
      rintro e w1 ⟨x, rfl, x0, x1, c1, b1⟩
      replace HC := hide c1
      have HB := hide b1
      clear c1 b1
      go_wp2_with fail
      go_ret
      exact ⟨_, rfl, Int.emod_nonneg _ (by omega), fun _ => Int.emod_lt_of_pos _ (by omega), by have := emod_le_me n x0; omega, (unhide HC).mono (by omega), unhide HB⟩
set_option maxHeartbeats 4000000 in
theorem one_v (C T : Nat) (n : Int) (w : World) (h : Cur C T w) (hT : T ≤ 999999) (h1 : n ≤ 1000000) :
    Calls Tryz.prog 62 #[.pointer (some ⟨C, 0, none⟩), .int .i64 n] w fun e w' => ∃ b : Bool, e = .returned (.bool b) ∧ Cur C (T + 2) w' ∧ But C (C + 1) w w' := by
  have HC := hide h
  clear h
  go_enter Tryz.func62, Tryz.ntmps62
  go_wp2_with fail
  refine (pick_v C T n w (unhide HC) hT h1).mono ?_
  rintro e w1 ⟨x, rfl, x0, x1, x2, c1, b1⟩
  go_wp2_with fail
  go_ret
  exact ⟨_, rfl, c1, b1⟩
set_option maxHeartbeats 4000000 in
theorem among_v (C T : Nat) (b off n c : Nat) (zs : List Int) (w : World) (h : Cur C T w) (hT : T ≤ 999999) (hn : 1 ≤ n) (hm : n ≤ 1000000) (hl : zs.length = n) (hb : b ≠ C) (hlt : b < w.heap.size) (hz : ∀ i, i < n → w.cell? ⟨b, off + i, none⟩ = some (.int .i64 (zs.getD i 0))) :
    Calls Tryz.prog 81 #[.pointer (some ⟨C, 0, none⟩), .slice (some ⟨b, off, none⟩) n c] w fun e w' => ∃ x : Int, e = .returned (.int .i64 x) ∧ x ∈ zs ∧ Cur C (T + 2) w' ∧ But C (C + 1) w w' := by
  have HC := hide h
  have HZ := hide hz
  clear h hz
  go_enter Tryz.func81, Tryz.ntmps81
  go_wp2_with fail
  refine (pick_v C T n w (unhide HC) hT (by omega)).mono ?_
  rintro e w1 ⟨x, rfl, x0, x1, x2, c1, b1⟩
  have e1 := b1.cell (unhide HZ x.toNat (by omega)) (by omega)
  have i1 : x < (n : Int) := x1 (by omega)
  have MZ : Hid (zs.getD x.toNat 0 ∈ zs) := hide (by rw [List.getD_eq_getElem?_getD, List.getElem?_eq_getElem (by omega)]; exact List.getElem_mem _)
  generalize zs.getD x.toNat 0 = y at e1 MZ
  replace HC := hide c1
  have HB := hide b1
  clear c1 b1 HZ x1
  go_wp2_with fail
  go_ret
  exact ⟨_, rfl, unhide MZ, unhide HC, unhide HB⟩
end Go.Proofs.YtdgonpbponnnaaaGreatDoor

/- BigOf: the program's and the specification's answer the number of every int. No condition beyond those typed. -/
import Derived.Test.YtdgonpbponnnaaaGreatDoorSgs
namespace Go.Proofs.YtdgonpbponnnaaaGreatDoor
open Go.RowKit
set_option linter.unusedVariables false
set_option maxRecDepth 100000
set_option linter.unusedSimpArgs false

theorem and_maskU (n : Int) : bits .and .u64 n 65535 = n % 65536 := by
  have h16 : (BitVec.ofInt 64 65535).toNat = 2 ^ 16 - 1 := by decide
  have key : (BitVec.ofInt 64 n &&& BitVec.ofInt 64 65535).toNat = (n % ((2 ^ 64 : Nat) : Int)).toNat % 2 ^ 16 := by
    rw [BitVec.toNat_and, BitVec.toNat_ofInt, h16, Nat.and_two_pow_sub_one_eq_mod]
  show IntKind.u64.wrap ((BitVec.ofInt 64 n &&& BitVec.ofInt 64 65535).toNat : Nat) = n % 65536
  rw [key, IntKind.wrap_u64]
  omega

def ds4 (U : Int) : List Int := [U % 65536, U / 65536 % 65536, U / 4294967296 % 65536, U / 281474976710656 % 65536]
theorem ds4_ok (U : Int) : okL (ds4 U) := by
  intro x hx
  simp only [ds4, List.mem_cons, List.not_mem_nil, or_false] at hx
  rcases hx with rfl | rfl | rfl | rfl <;> omega
theorem ds4_val (U : Int) (h0 : 0 ≤ U) (h1 : U ≤ 9223372036854775808) : val (ds4 U) = U := by
  simp only [ds4, val]
  omega
theorem ds4_own (w : World) (o : Obj) (U : Int) : Own (w.heap.size + 1) ((w.alloc o).alloc (.cells #[.int .i64 (U % 65536), .int .i64 (U / 65536 % 65536), .int .i64 (U / 4294967296 % 65536), .int .i64 (U / 281474976710656 % 65536)] 3)) (some ⟨w.heap.size + 1, 0, none⟩) (ds4 U) := by
  refine .inr ⟨w.heap.size + 1, #[.int .i64 (U % 65536), .int .i64 (U / 65536 % 65536), .int .i64 (U / 4294967296 % 65536), .int .i64 (U / 281474976710656 % 65536)], rfl, Nat.le_refl _, ?_, ?_⟩
  · show ((w.heap.push o).push _)[w.heap.size + 1]? = _
    rw [Array.getElem?_push, if_pos (by simp)]
  · intro i hi
    match i, hi with
    | 0, _ => rfl
    | 1, _ => rfl
    | 2, _ => rfl
    | 3, _ => rfl

set_option maxHeartbeats 2000000 in
theorem bigOfI_pos (n : Int) (w : World) (h0 : 0 ≤ n) (h1 : n ≤ 9223372036854775807) :
    Calls Tryz.prog 52 #[.int .i64 n] w (OutB w n) := by
  have hm := and_maskU
  have hneg : ¬ n < 0 := by omega
  go_enter Tryz.func52, Tryz.ntmps52
  go_wp2_with fail
  have ho := ds4_own w (.cells #[.bool false, .slice none 0 0] 25) (n)
  refine (signI_out false _ 4 4 (ds4 (n)) _ (w.heap.size + 1) (n) ⟨ho.sl, rfl, Nat.le_refl _, by unfold maxLen; omega, .inr ⟨_, _, rfl⟩⟩ ho (ds4_ok _) (ds4_val _ (by omega) (by omega)) (by simp) (by omega)).mono ?_
  rintro e w1 ⟨a1, n1, c1, ts, rfl, hb1, ho1, ha1, hn1⟩
  have r0 : w1.cell? ⟨w.heap.size, 0, none⟩ = some (.bool false) := cell_later hb1 (by simp [go_sem])
  have r1 : w1.cell? ⟨w.heap.size, 1, none⟩ = some (.slice none 0 0) := cell_later hb1 (by simp [go_sem])
  have f0 : ∀ o, w1.frozen? ⟨w.heap.size, o, none⟩ = false := fun o => frozen_later hb1 (by simp <;> omega) (by simp [go_sem])
  have HB := hide ((below_two _ _ _).trans (hb1.mono (by simp <;> omega)))
  have HO := hide ho1
  have HA := hide ha1
  have HN := hide hn1
  clear hb1 ho1 ha1 hn1 ho
  go_wp2
  refine bodyPost_ret (v := .agg #[.bool (sd false (n)), .slice a1 n1 c1]) (by simp [results, Tryz.results52, go_sem, r0, r1]) rfl ?_
  exact outB_of (s := w.heap.size) (g := false) (Nat.le_refl _) (unhide HB) (unhide HO) (unhide HA) (unhide HN) (by simp) _ _

set_option maxHeartbeats 2000000 in
theorem bigOfI_neg (n : Int) (w : World) (h0 : n < 0) (h1 : -9223372036854775808 ≤ n) :
    Calls Tryz.prog 52 #[.int .i64 n] w (OutB w n) := by
  have hm := and_maskU
  have hw : IntKind.u64.wrap (-IntKind.u64.wrap n) = -n := by rw [IntKind.wrap_u64, IntKind.wrap_u64]; omega
  go_enter Tryz.func52, Tryz.ntmps52
  go_wp2_with fail
  have ho := ds4_own w (.cells #[.bool false, .slice none 0 0] 25) (-n)
  refine (signI_out true _ 4 4 (ds4 (-n)) _ (w.heap.size + 1) (-n) ⟨ho.sl, rfl, Nat.le_refl _, by unfold maxLen; omega, .inr ⟨_, _, rfl⟩⟩ ho (ds4_ok _) (ds4_val _ (by omega) (by omega)) (by simp) (by omega)).mono ?_
  rintro e w1 ⟨a1, n1, c1, ts, rfl, hb1, ho1, ha1, hn1⟩
  have r0 : w1.cell? ⟨w.heap.size, 0, none⟩ = some (.bool false) := cell_later hb1 (by simp [go_sem])
  have r1 : w1.cell? ⟨w.heap.size, 1, none⟩ = some (.slice none 0 0) := cell_later hb1 (by simp [go_sem])
  have f0 : ∀ o, w1.frozen? ⟨w.heap.size, o, none⟩ = false := fun o => frozen_later hb1 (by simp <;> omega) (by simp [go_sem])
  have HB := hide ((below_two _ _ _).trans (hb1.mono (by simp <;> omega)))
  have HO := hide ho1
  have HA := hide ha1
  have HN := hide hn1
  clear hb1 ho1 ha1 hn1 ho
  go_wp2
  refine bodyPost_ret (v := .agg #[.bool (sd true (-n)), .slice a1 n1 c1]) (by simp [results, Tryz.results52, go_sem, r0, r1]) rfl ?_
  exact outB_of (s := w.heap.size) (g := true) (Nat.le_refl _) (unhide HB) (unhide HO) (unhide HA) (unhide HN) (by simp) _ _

theorem bigOfI_any (n : Int) (w : World) (h0 : -9223372036854775808 ≤ n) (h1 : n ≤ 9223372036854775807) :
    Calls Tryz.prog 52 #[.int .i64 n] w (OutB w n) := by
  by_cases h : 0 ≤ n
  · exact bigOfI_pos n w h h1
  · exact bigOfI_neg n w (by omega) h0

theorem below_pushB {B : Nat} {W wr w1 : World} {o : Obj} {v : Value} {n : Nat} {xs : List Value} (hb : Below B W wr) (hB : B ≤ wr.heap.size) (hown : wr.ownsRow B 3 1 v n xs) (hg : (wr.alloc o).grownBy w1 v.ownBlock) : Below B W w1 := by
  refine (hb.alloc hB o).grown hg (by simp; omega) ?_
  intro k e
  rcases hown.2 with ⟨rfl, _⟩ | ⟨g, cap, cur, rfl, hgb, _⟩
  · simp [Value.ownBlock] at e
  · simp [Value.ownBlock] at e; omega
theorem Acc.down {zs : List Int} {k : Nat} {p V : Int} (h : Acc zs k p V) (h0 : 0 ≤ p) : Acc (zs ++ [p % 65536]) (k + 1) (p / 65536) V := by
  have := h.step p
  exact this.cast (by simp)
theorem acc_bound {zs : List Int} {k : Nat} {p V : Int} (h : Acc zs k p V) (hp : 0 < p) (hV : V ≤ 9223372036854775808) : k ≤ 3 := by
  have l := val_nonneg h.ok
  have e := h.v
  by_cases hk : k ≤ 3
  · exact hk
  · have h4 : (65536 : Int) ^ 4 ≤ 65536 ^ k := pow_mono (by omega)
    have h5 : (65536 : Int) ^ k * 1 ≤ 65536 ^ k * p := Int.mul_le_mul_of_nonneg_left (by omega) (Int.le_of_lt (Int.pow_pos (by omega)))
    have h6 : (65536 : Int) ^ 4 = 18446744073709551616 := by decide
    omega

set_option maxHeartbeats 4000000 in
theorem bigOfS_any (n : Int) (w : World) (h0 : -9223372036854775808 ≤ n) (h1 : n ≤ 9223372036854775807) :
    Calls Tryz.prog 55 #[.int .i64 n] w (OutB w n) := by
  obtain ⟨i0, hi, hz0, hz1, hz2⟩ := info_parts Tryz.info3
  go_enter Tryz.func55, Tryz.ntmps55
  go_wp2
  go_loopw [3, 4] (fun v mv wr => ∃ (k : Nat) (m : Int) (zs : List Int), mv = .int .i64 m ∧ k ≤ 4 ∧ (0 ≤ n → 0 ≤ m) ∧ (n < 0 → m ≤ 0) ∧ -9223372036854775808 ≤ m ∧ m ≤ 9223372036854775807 ∧ w.heap.size + 1 ≤ wr.heap.size ∧ Hid (Acc zs k m.natAbs n.natAbs) ∧
      Hid (wr.ownsRow (w.heap.size + 1) 3 1 v k (zs.map (Value.int .i64))) ∧ Hid (Below (w.heap.size + 1) (w.alloc (.cells #[.bool false, .slice none 0 0] 25)) wr)) (fun _ mv _ => (intOf mv).natAbs)
  case atStart => exact ⟨0, n, [], rfl, by omega, fun h => h, fun h => by omega, h0, h1, by simp, hide ⟨rfl, okL_nil, by simp [val]⟩, hide (World.ownsRow_nil _ _ _ _), hide (Below.refl _ _)⟩
  case round =>
    obtain ⟨k, m, zs, rfl, hk, s1, s2, m0, m1, hsz, HA, HO, HB⟩ := hrel
    by_cases hm : m = 0
    · subst hm
      obtain ⟨a2, c2, rfl, ho, ha⟩ := owns_shape (unhide HO) (unhide HA).len
      have HF := hide (And.intro ho ha)
      clear ho ha
      have r0 : wr.cell? ⟨w.heap.size, 0, none⟩ = some (.bool false) := ((unhide HB).cell (p := ⟨w.heap.size, 0, none⟩) (by exact Nat.lt_succ_self _)).trans (by simp [go_sem])
      have r1 : wr.cell? ⟨w.heap.size, 1, none⟩ = some (.slice none 0 0) := ((unhide HB).cell (p := ⟨w.heap.size, 1, none⟩) (by exact Nat.lt_succ_self _)).trans (by simp [go_sem])
      have f0 : ∀ o, wr.frozen? ⟨w.heap.size, o, none⟩ = false := fun o => ((unhide HB).frozen (p := ⟨w.heap.size, o, none⟩) (by exact Nat.lt_succ_self _)).trans (by simp [go_sem])
      have BB := hide (((Below.refl w.heap.size w).alloc (Nat.le_refl _) _).trans ((unhide HB).mono (Nat.le_succ _)))
      have HV : Hid (val zs = n.natAbs) := hide (by have := (unhide HA).v; simpa using this)
      go_wp2_with fail
      refine (signS_out _ a2 k c2 zs wr (w.heap.size + 1) n.natAbs (unhide HF).2 (unhide HF).1 (unhide HA).ok (unhide HV) hsz (by omega)).mono ?_
      rintro e w1 ⟨a3, n3, c3, ts, rfl, hb1, ho1, ha1, hn1⟩
      replace r0 := cell_later hb1 r0
      replace r1 := cell_later hb1 r1
      replace f0 : ∀ o, w1.frozen? ⟨w.heap.size, o, none⟩ = false := fun o => frozen_later hb1 (by omega) (f0 o)
      replace BB := hide ((unhide BB).trans (hb1.mono (unhide BB).size))
      have HO1 := hide ho1
      have HA1 := hide ha1
      have HN1 := hide hn1
      clear hb1 ho1 ha1 hn1 HF
      go_wp2
      refine bodyPost_ret (v := .agg #[.bool (sd (decide (n < 0)) n.natAbs), .slice a3 n3 c3]) (by simp [results, Tryz.results55, go_sem, r0, r1]) rfl ?_
      exact outB_of (s := w.heap.size) (g := decide (n < 0)) (Nat.le_refl _) (unhide BB) (unhide HO1) (unhide HA1) (unhide HN1) (by by_cases hn : n < 0 <;> simp [hn] <;> omega) _ _
    · have hmne : (m != 0) = true := by simp [hm]
      have HK := hide (acc_bound (unhide HA) (by omega) (by omega))
      by_cases hp : 0 < m
      · have hx0 : ¬ m % 65536 < 0 := by omega
        have hk3 := unhide HK
        have en : ((m.natAbs : Nat) : Int) = m := by omega
        go_wp2_with (at_builtin; refine wpList_append_own _ rfl (.tmp 17) (.tmp 19) 23 rfl (w.heap.size + 1) 3 i0 (.int .i64 0) 1 8 Tryz.underlying23 hi hz0 hz1 hz2 rfl (by decide) _ _ _ rfl ((unhide HO).alloc _) ⟨_, 0, none⟩ 1 1 [.int .i64 (m % 65536)] rfl rfl (new_cell _ _) (fun u hu => by simp at hu; subst hu; rfl) (by unfold maxLen; omega) (by omega) (by have := hsz; simp; omega) ?_)
        intro v' w1 hown hg _
        have HR := hide (push_owns (w := w) (v := v') hown)
        have HB2 := hide (below_pushB (unhide HB) hsz (unhide HO) hg)
        have hsz2 : w.heap.size + 1 ≤ w1.heap.size := by have := hg.size; simp at this; omega
        clear hown hg
        go_wp2
        go_roundw
        case rel => exact ⟨k + 1, _, zs ++ [m % 65536], rfl, by omega, by omega, by omega, by omega, by omega, hsz2, hide (by have := (unhide HA).down (by omega); rw [en] at this; rw [show (((m / 65536).natAbs : Nat) : Int) = m / 65536 by omega]; exact this), HR, HB2⟩
        case measure => simp [intOf]; omega
      · obtain ⟨p, HP⟩ : ∃ p, Hid (p = -m) := ⟨_, hide rfl⟩
        have hpe := unhide HP
        have hk3 := unhide HK
        have ht : m.tmod 65536 = -(p % 65536) := by
          rw [show m = -p by omega, Int.neg_tmod, Int.tmod_eq_emod_of_nonneg (by omega)]
        have hd : m.tdiv 65536 = -(p / 65536) := by
          rw [show m = -p by omega, Int.neg_tdiv, Int.tdiv_eq_ediv_of_nonneg (by omega)]
        have HA2 : Hid (Acc (zs ++ [p % 65536]) (k + 1) (p / 65536) n.natAbs) := hide (by have := (unhide HA).down (by omega); rw [show ((m.natAbs : Nat) : Int) = p by omega] at this; exact this)
        have hq : Hid (65536 * (p / 65536) + p % 65536 = p) := hide (by omega)
        have q0 : 0 ≤ p % 65536 := by omega
        have q1 : p % 65536 ≤ 65535 := by omega
        have r0 : 0 ≤ p / 65536 := by omega
        have r1 : p / 65536 ≤ 140737488355328 := by omega
        have hpp : Hid (0 < p ∧ p ≤ 9223372036854775808) := hide (by omega)
        clear hpe
        generalize p % 65536 = q at *
        generalize p / 65536 = r at *
        have hsn : n < 0 := by omega
        by_cases hq0 : q = 0
        · subst hq0
          have ht' : m.tmod 65536 = 0 := by rw [ht]; rfl
          clear ht
          have hz00 : ¬ (0 : Int) < 0 := by omega
          go_wp2_with (at_builtin; refine wpList_append_own _ rfl (.tmp 17) (.tmp 19) 23 rfl (w.heap.size + 1) 3 i0 (.int .i64 0) 1 8 Tryz.underlying23 hi hz0 hz1 hz2 rfl (by decide) _ _ _ rfl ((unhide HO).alloc _) ⟨_, 0, none⟩ 1 1 [.int .i64 (0)] rfl rfl (new_cell _ _) (fun u hu => by simp at hu; subst hu; rfl) (by unfold maxLen; omega) (by omega) (by have := hsz; simp; omega) ?_)
          intro v' w1 hown hg _
          have HR := hide (push_owns (w := w) (v := v') hown)
          have HB2 := hide (below_pushB (unhide HB) hsz (unhide HO) hg)
          have hsz2 : w.heap.size + 1 ≤ w1.heap.size := by have := hg.size; simp at this; omega
          clear hown hg
          go_wp2
          go_roundw
          case rel => exact ⟨k + 1, _, zs ++ [0], rfl, by omega, by omega, by omega, by omega, by omega, hsz2, hide (by rw [show (((-r).natAbs : Nat) : Int) = r by omega]; exact unhide HA2), HR, HB2⟩
          case measure => (have := unhide hq; have := unhide hpp; have := unhide HP; simp [intOf]; omega)
        · have hqn : -q < 0 := by omega
          go_wp2_with (at_builtin; refine wpList_append_own _ rfl (.tmp 17) (.tmp 19) 23 rfl (w.heap.size + 1) 3 i0 (.int .i64 0) 1 8 Tryz.underlying23 hi hz0 hz1 hz2 rfl (by decide) _ _ _ rfl ((unhide HO).alloc _) ⟨_, 0, none⟩ 1 1 [.int .i64 (q)] rfl rfl (new_cell _ _) (fun u hu => by simp at hu; subst hu; rfl) (by unfold maxLen; omega) (by omega) (by have := hsz; simp; omega) ?_)
          intro v' w1 hown hg _
          have HR := hide (push_owns (w := w) (v := v') hown)
          have HB2 := hide (below_pushB (unhide HB) hsz (unhide HO) hg)
          have hsz2 : w.heap.size + 1 ≤ w1.heap.size := by have := hg.size; simp at this; omega
          clear hown hg
          go_wp2
          go_roundw
          case rel => exact ⟨k + 1, _, zs ++ [q], rfl, by omega, by omega, by omega, by omega, by omega, hsz2, hide (by rw [show (((-r).natAbs : Nat) : Int) = r by omega]; exact unhide HA2), HR, HB2⟩
          case measure => (have := unhide hq; have := unhide hpp; have := unhide HP; simp [intOf]; omega)
end Go.Proofs.YtdgonpbponnnaaaGreatDoor

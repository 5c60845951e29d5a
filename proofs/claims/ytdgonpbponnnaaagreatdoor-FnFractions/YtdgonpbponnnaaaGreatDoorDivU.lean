/- Limbs shifted by fewer than 16 bits: the program's shiftUp and shiftDown, the specification's l1Up and l1Down. No condition beyond those typed. -/
import Derived.Test.YtdgonpbponnnaaaGreatDoorDivS
namespace Go.Proofs.YtdgonpbponnnaaaGreatDoor
open Go.RowKit
set_option linter.unusedVariables false
set_option maxRecDepth 100000
set_option linter.unusedSimpArgs false

theorem Sl.at2 {w : World} {a : Option Addr} {xs : List Int} (h : Sl w a xs) {k : Nat} (hk : k < xs.length) : ∃ b off, a = some ⟨b, off, none⟩ ∧ b < w.heap.size ∧ w.cell? ⟨b, off + k, none⟩ = some (.int .i64 (xs.getD k 0)) := by
  rcases h with rfl | ⟨b, off, rfl, hb, hc⟩
  · simp at hk
  · exact ⟨b, off, rfl, hb, hc k hk⟩
/-- A call answers n + 1 limbs of V, a row of its own that may be written. -/
def OutR (w : World) (V : Int) (L : Nat) (e : Ending) (w' : World) : Prop :=
  ∃ g zs, e = .returned (.slice (some ⟨g, 0, none⟩) L L) ∧ w.heap.size ≤ g ∧ Below w.heap.size w w' ∧ w'.ownsRow w.heap.size 3 1 (.slice (some ⟨g, 0, none⟩) L L) L (zs.map (Value.int .i64)) ∧ zs.length = L ∧ okL zs ∧ val zs = V

set_option maxHeartbeats 4000000 in
theorem upI_any (a : Option Addr) (n c : Nat) (xs : List Int) (s : Nat) (w : World) (hx : Arg w a n c xs) (ox : okL xs) (h1 : n ≤ 1000000) (hs : s ≤ 15) :
    Calls Tryz.prog 111 #[.slice a n c, .int .i64 s] w (OutR w (val xs * 2 ^ s) (n + 1)) := by
  obtain ⟨i0, hi, hz0, hz1, hz2⟩ := info_parts Tryz.info3
  have HN := hide hx.len
  have HX := hide hx.sl
  have hmask := and_mask
  clear hx
  go_enter Tryz.func111, Tryz.ntmps111
  go_wp2_with (at_make; refine wpList_make_full _ rfl _ _ 23 rfl w.heap.size 3 i0 (.int .i64 0) 1 Tryz.underlying23 hi hz0 hz1 .i64 .i64 _ _ (n + 1) rfl rfl (by omega) (by omega) (by rw [hz2]; omega) (by unfold maxLen; omega) (Nat.le_refl _) ?_)
  intro w1 hown hgrow
  have HO0 : Hid (w1.ownsRow w.heap.size 3 1 (.slice (some ⟨w.heap.size, 0, none⟩) (n + 1) (n + 1)) (n + 1) ((rowL [] (n + 1)).map (Value.int .i64))) := by
    rw [made_ints] at hown; rw [rowL_nil]; exact hide hown
  have HB0 : Hid (Below w.heap.size w w1) := hide ((Below.refl _ _).grown hgrow (Nat.le_refl _) (fun k e => by cases e))
  clear hown hgrow
  obtain ⟨p, HP⟩ : ∃ p : Int, Hid ((2 : Int) ^ s = p) := ⟨_, hide rfl⟩
  have hp0 : 0 < p := by rw [← unhide HP]; exact (pow2_le s hs).1
  have hp1 : p ≤ 32768 := by rw [← unhide HP]; exact (pow2_le s hs).2
  go_wp2
  go_loopw [6, 15] (fun cv iv wr => ∃ (k : Nat) (cy : Int) (zs : List Int), k ≤ n ∧ iv = .int .i64 k ∧ cv = .int .i64 cy ∧ 0 ≤ cy ∧ cy < p ∧ Hid (Acc zs k cy (val (xs.take k) * p)) ∧
      Hid (wr.ownsRow w.heap.size 3 1 (.slice (some ⟨w.heap.size, 0, none⟩) (n + 1) (n + 1)) (n + 1) ((rowL zs (n + 1)).map (Value.int .i64))) ∧ Hid (Below w.heap.size w wr)) (fun _ iv _ => n - (intOf iv).toNat)
  case atStart => exact ⟨0, 0, [], Nat.zero_le _, rfl, rfl, by omega, by omega, hide (by simpa [val] using Acc.start), HO0, HB0⟩
  case round =>
    obtain ⟨k, cy, zs, hk, rfl, rfl, hc0, hc1, HA, HO, HB⟩ := hrel
    by_cases hlt : k < n
    · obtain ⟨b, off, rfl, hcx⟩ := ((unhide HX).later (Nat.le_refl _) (unhide HB)).at (k := k) (by rw [unhide HN]; exact hlt)
      have hxb := okL_get ox k
      have hvx := hide (val_take_succ xs k)
      obtain ⟨r1, r2, r3⟩ := rowL_owns (unhide HO) (unhide HA).len (show k < n + 1 by omega) ((cy + xs.getD k 0 * p) % 65536)
      have R3 := hide r3
      clear r3
      generalize xs.getD k 0 = x at *
      obtain ⟨hx0, hx1⟩ := hxb
      have hb1 : x * p ≤ 65535 * p := Int.mul_le_mul_of_nonneg_right hx1 (by omega)
      have hb0 : 0 ≤ x * p := Int.mul_nonneg hx0 (by omega)
      have hor := or_lo s cy x hs hc0 (by rw [unhide HP]; exact hc1) hx0 hx1
      have hpow := unhide HP
      rw [hpow] at hor
      have hlt' : (k : Int) < (n : Int) := by omega
      have HA2 := hide ((unhide HA).step (cy + x * p))
      have HB2 := hide ((unhide HB).setCell (p := ⟨w.heap.size, k, none⟩) (Nat.le_refl _) (.int .i64 ((cy + x * p) % 65536)))
      clear HO
      go_wp2
      go_roundw
      case rel => exact ⟨k + 1, _, _, by omega, by go_num, rfl, by omega, by omega, hide ((unhide HA2).cast (by rw [unhide hvx, Int.add_mul, Int.mul_assoc]; rw [show cy + x * p - cy = x * p by omega])), R3, HB2⟩
      case measure => simp [intOf]; omega
    · obtain rfl : k = n := by omega
      obtain ⟨r1, r2, r3⟩ := rowL_owns (unhide HO) (unhide HA).len (show k < k + 1 by omega) cy
      have HB2 := hide ((unhide HB).setCell (p := ⟨w.heap.size, k, none⟩) (Nat.le_refl _) (.int .i64 cy))
      have R3 := hide r3
      clear r3 HO
      go_wp2
      go_ret
      refine ⟨w.heap.size, zs ++ [cy], rfl, Nat.le_refl _, unhide HB2, ?_, by simp [(unhide HA).len], okL_append (unhide HA).ok (okL_one hc0 (by omega)), ?_⟩
      · have := unhide R3
        rw [rowL_full _ _ (by simp [(unhide HA).len])] at this
        exact this
      · rw [val_snoc, (unhide HA).len, (unhide HA).v, List.take_of_length_le (by rw [unhide HN]; exact Nat.le_refl _), unhide HP]

theorem up_arith (s : Nat) (cy x : Int) (hs : s ≤ 15) (h0 : 0 ≤ cy) (h1 : cy < 2 ^ s) (hx : 0 ≤ x) (hx1 : x ≤ 65535) :
    (cy + x * 2 ^ s) % 65536 = cy + x * 2 ^ s % 65536 ∧ (cy + x * 2 ^ s) / 65536 = x * 2 ^ s / 65536 ∧ x * 2 ^ s % 65536 % 2 ^ s = 0 := by
  rcases (show s = 0 ∨ s = 1 ∨ s = 2 ∨ s = 3 ∨ s = 4 ∨ s = 5 ∨ s = 6 ∨ s = 7 ∨ s = 8 ∨ s = 9 ∨ s = 10 ∨ s = 11 ∨ s = 12 ∨ s = 13 ∨ s = 14 ∨ s = 15 from by omega) with rfl | rfl | rfl | rfl | rfl | rfl | rfl | rfl | rfl | rfl | rfl | rfl | rfl | rfl | rfl | rfl <;> (simp only [Int.reducePow] at *; omega)
theorem or_up (s : Nat) (cy x : Int) (hs : s ≤ 15) (h0 : 0 ≤ cy) (h1 : cy < 2 ^ s) (hx : 0 ≤ x) (hx1 : x ≤ 65535) : bits .or .i64 cy (x * 2 ^ s % 65536) = (cy + x * 2 ^ s) % 65536 := by
  obtain ⟨e1, e2, e3⟩ := up_arith s cy x hs h0 h1 hx hx1
  obtain ⟨p0, p1⟩ := pow2_le s hs
  rw [or_commI, bits_join .i64 63 (by decide) wraps_i64 s (x * 2 ^ s % 65536) cy (by omega) e3 (by omega) h0 h1 (by omega), e1]
  omega
theorem rowL_more (zs : List Int) (n : Nat) (h : zs.length < n) : rowL (zs ++ [0]) n = rowL zs n := by
  rw [← rowL_set zs n 0 h]
  apply List.ext_getElem?
  intro i
  rw [List.getElem?_set]
  split
  · rename_i e
    subst e
    rw [rowL_len _ _ (by omega), if_pos h]
    unfold rowL
    rw [List.getElem?_append_right (Nat.le_refl _), Nat.sub_self, show n - zs.length = (n - zs.length - 1) + 1 by omega, List.replicate_succ]
    rfl
  · rfl
theorem rowL_snoc2 (zs : List Int) (c d : Int) (n : Nat) (h : zs.length + 1 < n) : ((rowL (zs ++ [c]) n).set zs.length d) = rowL (zs ++ [d]) n := by
  rw [← rowL_set zs n c (by omega), ← rowL_set zs n d (by omega), List.set_set]

set_option maxHeartbeats 4000000 in
theorem upS_any (a : Option Addr) (n c : Nat) (xs : List Int) (s : Nat) (w : World) (hx : Arg w a n c xs) (ox : okL xs) (h1 : n ≤ 1000000) (hs : s ≤ 15) :
    Calls Tryz.prog 101 #[.slice a n c, .int .i64 s] w (OutR w (val xs * 2 ^ s) (n + 1)) := by
  obtain ⟨i0, hi, hz0, hz1, hz2⟩ := info_parts Tryz.info3
  have HN := hide hx.len
  have HX := hide hx.sl
  clear hx
  go_enter Tryz.func101, Tryz.ntmps101
  go_wp2_with (at_make; refine wpList_make_full _ rfl _ _ 23 rfl w.heap.size 3 i0 (.int .i64 0) 1 Tryz.underlying23 hi hz0 hz1 .i64 .i64 _ _ (n + 1) rfl rfl (by omega) (by omega) (by rw [hz2]; omega) (by unfold maxLen; omega) (Nat.le_refl _) ?_)
  intro w1 hown hgrow
  have HO0 : Hid (w1.ownsRow w.heap.size 3 1 (.slice (some ⟨w.heap.size, 0, none⟩) (n + 1) (n + 1)) (n + 1) ((rowL ([] ++ [0]) (n + 1)).map (Value.int .i64))) := by
    rw [made_ints] at hown; rw [rowL_more _ _ (by simp), rowL_nil]; exact hide hown
  have HB0 : Hid (Below w.heap.size w w1) := hide ((Below.refl _ _).grown hgrow (Nat.le_refl _) (fun k e => by cases e))
  clear hown hgrow
  obtain ⟨p, HP⟩ : ∃ p : Int, Hid ((2 : Int) ^ s = p) := ⟨_, hide rfl⟩
  have hp0 : 0 < p := by rw [← unhide HP]; exact (pow2_le s hs).1
  have hp1 : p ≤ 32768 := by rw [← unhide HP]; exact (pow2_le s hs).2
  go_wp2
  go_loopw [15] (fun iv wr => ∃ (k : Nat) (cy : Int) (zs : List Int), k ≤ n ∧ iv = .int .i64 k ∧ 0 ≤ cy ∧ cy < p ∧ Hid (Acc zs k cy (val (xs.take k) * p)) ∧
      Hid (wr.ownsRow w.heap.size 3 1 (.slice (some ⟨w.heap.size, 0, none⟩) (n + 1) (n + 1)) (n + 1) ((rowL (zs ++ [cy]) (n + 1)).map (Value.int .i64))) ∧ Hid (Below w.heap.size w wr)) (fun iv _ => n - (intOf iv).toNat)
  case atStart => exact ⟨0, 0, [], Nat.zero_le _, rfl, by omega, by omega, hide (by simpa [val] using Acc.start), HO0, HB0⟩
  case round =>
    obtain ⟨k, cy, zs, hk, rfl, hc0, hc1, HA, HO, HB⟩ := hrel
    by_cases hlt : k < n
    · obtain ⟨b, off, rfl, hcx⟩ := ((unhide HX).later (Nat.le_refl _) (unhide HB)).at (k := k) (by rw [unhide HN]; exact hlt)
      have hxb := okL_get ox k
      have hvx := hide (val_take_succ xs k)
      generalize xs.getD k 0 = x at *
      obtain ⟨hx0, hx1⟩ := hxb
      have hzl := (unhide HA).len
      obtain ⟨r1, r2, r3⟩ := row_cell (unhide HO) (rowL_len _ _ (by simp [hzl]; omega)) (show k < n + 1 by omega) ((cy + x * p) % 65536)
      have hget : (rowL (zs ++ [cy]) (n + 1)).getD k 0 = cy := by unfold rowL; simp [← hzl]
      rw [hget] at r1
      have hset : (rowL (zs ++ [cy]) (n + 1)).set k ((cy + x * p) % 65536) = rowL (zs ++ [(cy + x * p) % 65536]) (n + 1) := by
        have := rowL_snoc2 zs cy ((cy + x * p) % 65536) (n + 1) (by omega)
        rw [hzl] at this; exact this
      rw [hset] at r3
      obtain ⟨r4, r5, r6⟩ := rowL_owns r3 (k := k + 1) (by simp [hzl]) (show k + 1 < n + 1 by omega) ((cy + x * p) / 65536)
      have R6 := hide r6
      have hb1 : x * p ≤ 65535 * p := Int.mul_le_mul_of_nonneg_right hx1 (by omega)
      have hb0 : 0 ≤ x * p := Int.mul_nonneg hx0 (by omega)
      have hor := or_up s cy x hs hc0 (by rw [unhide HP]; exact hc1) hx0 hx1
      have har := (up_arith s cy x hs hc0 (by rw [unhide HP]; exact hc1) hx0 hx1).2.1
      have hpow := unhide HP
      rw [hpow] at hor har
      have hlt' : (k : Int) < (n : Int) := by omega
      have HA2 := hide ((unhide HA).step (cy + x * p))
      have HB2 := hide (((unhide HB).setCell (p := ⟨w.heap.size, k, none⟩) (Nat.le_refl _) (.int .i64 ((cy + x * p) % 65536))).setCell (p := ⟨w.heap.size, k + 1, none⟩) (Nat.le_refl _) (.int .i64 ((cy + x * p) / 65536)))
      have tq : (x * p).tdiv 65536 = (cy + x * p) / 65536 := by rw [har]; exact Int.tdiv_eq_ediv_of_nonneg (by omega)
      have tm : (x * p).tmod 65536 = (x * p) % 65536 := Int.tmod_eq_emod_of_nonneg (by omega)
      have hq2 : x * p / 65536 = (cy + x * p) / 65536 := har.symm
      clear HO r3 r6 hget hset hzl har
      go_wp2
      go_roundw
      case rel => exact ⟨k + 1, _, _, by omega, by go_num, by omega, by omega, hide ((unhide HA2).cast (by rw [unhide hvx, Int.add_mul, Int.mul_assoc]; rw [show cy + x * p - cy = x * p by omega])), R6, HB2⟩
      case measure => simp [intOf]; omega
    · obtain rfl : k = n := by omega
      go_wp2
      go_ret
      refine ⟨w.heap.size, zs ++ [cy], rfl, Nat.le_refl _, unhide HB, ?_, by simp [(unhide HA).len], okL_append (unhide HA).ok (okL_one hc0 (by omega)), ?_⟩
      · have := unhide HO
        rw [rowL_full _ _ (by simp [(unhide HA).len])] at this
        exact this
      · rw [val_snoc, (unhide HA).len, (unhide HA).v, List.take_of_length_le (by rw [unhide HN]; exact Nat.le_refl _), unhide HP]

theorem dn_step (s : Nat) (xs : List Int) (j : Nat) (h : j < xs.length) : dn s (xs.drop j) = (xs.getD j 0 + 65536 * xs.getD (j + 1) 0) / 2 ^ s % 65536 :: dn s (xs.drop (j + 1)) := by
  rw [List.drop_eq_getElem_cons h]
  simp only [dn]
  congr 1
  · congr 2
    rw [show xs[j] = xs.getD j 0 by simp [h]]
    congr 2
    cases hd : xs.drop (j + 1) with
    | nil =>
      have : xs.length ≤ j + 1 := List.drop_eq_nil_iff.1 hd
      simp [show ¬ j + 1 < xs.length by omega]
    | cons y ys =>
      have : j + 1 < xs.length := by
        rcases Nat.lt_or_ge (j + 1) xs.length with h' | h'
        · exact h'
        · rw [List.drop_of_length_le h'] at hd; cases hd
      rw [List.drop_eq_getElem_cons this] at hd
      simp only [List.cons.injEq] at hd
      simp [this, hd.1]

set_option maxHeartbeats 4000000 in
theorem downI_any (a : Option Addr) (n c : Nat) (xs : List Int) (s : Nat) (w : World) (hx : Arg w a n c xs) (ox : okL xs) (h1 : n ≤ 1000000) (hs : s ≤ 15) :
    Calls Tryz.prog 113 #[.slice a n c, .int .i64 s] w (Out w (val xs / 2 ^ s)) := by
  obtain ⟨i0, hi, hz0, hz1, hz2⟩ := info_parts Tryz.info3
  have HN := hide hx.len
  have HX := hide hx.sl
  have hmask := and_mask
  clear hx
  go_enter Tryz.func113, Tryz.ntmps113
  go_wp2_with (at_make; refine wpList_make_full _ rfl _ _ 23 rfl w.heap.size 3 i0 (.int .i64 0) 1 Tryz.underlying23 hi hz0 hz1 .i64 .i64 _ _ n rfl rfl (by omega) (by omega) (by rw [hz2]; omega) (by unfold maxLen; omega) (Nat.le_refl _) ?_)
  intro w1 hown hgrow
  have HO0 : Hid (w1.ownsRow w.heap.size 3 1 (.slice (some ⟨w.heap.size, 0, none⟩) n n) n ((rowT n (dn s (xs.drop n))).map (Value.int .i64))) := by
    rw [made_ints] at hown; rw [drop_zero (unhide HN)]; exact hide (by unfold rowT; simpa [dn] using hown)
  have HB0 : Hid (Below w.heap.size w w1) := hide ((Below.refl _ _).grown hgrow (Nat.le_refl _) (fun k e => by cases e))
  clear hown hgrow
  obtain ⟨p, HP⟩ : ∃ p : Int, Hid ((2 : Int) ^ s = p) := ⟨_, hide rfl⟩
  have hp0 : 0 < p := by rw [← unhide HP]; exact (pow2_le s hs).1
  go_wp2
  go_loopw [6, 7] (fun av iv wr => ∃ (k : Nat) (x2 : Int), k ≤ n ∧ iv = .int .i64 ((k : Int) - 1) ∧ av = .int .i64 x2 ∧ Hid (xs.getD k 0 = x2) ∧
      Hid (wr.ownsRow w.heap.size 3 1 (.slice (some ⟨w.heap.size, 0, none⟩) n n) n ((rowT k (dn s (xs.drop k))).map (Value.int .i64))) ∧ Hid (Below w.heap.size w wr)) (fun _ iv _ => (intOf iv + 1).toNat)
  case atStart => exact ⟨n, 0, Nat.le_refl _, rfl, rfl, hide (getD_out (unhide HN) (Nat.le_refl _)), HO0, HB0⟩
  case round =>
    obtain ⟨k, x2, hk, hiv, rfl, HX2, HO, HB⟩ := hrel
    cases k with
    | zero =>
      have e : (((0 : Nat) : Int) - 1) = -1 := by omega
      rw [e] at hiv
      subst hiv
      have hzl : (dn s xs).length = n := by rw [dn_len]; exact unhide HN
      have ho := Own.of_owns (zs := dn s xs) (by have := unhide HO; unfold rowT at this; simpa using this) hzl
      have harg0 : Arg wr (some ⟨w.heap.size, 0, none⟩) n n (dn s xs) := ⟨ho.sl, hzl, Nat.le_refl _, by unfold maxLen; omega, .inr ⟨_, _, rfl⟩⟩
      have H0 := hide (And.intro ho harg0)
      clear ho harg0 hzl e
      go_wp2_with fail
      refine (trim_any _ n n (dn s xs) _ (unhide H0).2).mono ?_
      rintro e w2 ⟨a2, n2, c2, rfl, rfl, harg, hown⟩
      have HF : Hid (Own w.heap.size w2 a2 (trim (dn s xs)) ∧ Arg w2 a2 n2 c2 (trim (dn s xs)) ∧ Nm (trim (dn s xs)) (val xs / 2 ^ s)) := by
        refine hide ⟨hown _ _ (unhide H0).1, harg _ (unhide H0).2, ?_⟩
        rw [← dn_val s xs hs ox]
        exact Nm.trimmed (dn_ok s xs)
      clear harg hown
      go_wp2
      go_ret
      exact ⟨a2, n2, c2, _, rfl, unhide HB, (unhide HF).1, (unhide HF).2.1, (unhide HF).2.2⟩
    | succ j =>
      have e : (((j + 1 : Nat) : Int) - 1) = j := by omega
      rw [e] at hiv
      subst hiv
      obtain ⟨b, off, rfl, hbw, hcw⟩ := (unhide HX).at2 (k := j) (by rw [unhide HN]; omega)
      have hcx := cell_later (unhide HB) hcw
      clear hcw
      have hxb := okL_get ox j
      have hyb := okL_get ox (j + 1)
      have HS := hide (dn_step s xs j (by rw [unhide HN]; omega))
      have hl : (j + 1) + (dn s (xs.drop (j + 1))).length = n := by rw [dn_len, List.length_drop, unhide HN]; omega
      obtain ⟨⟨y, r1⟩, r2, r3⟩ := rowT_owns (unhide HO) hl ((xs.getD j 0 + 65536 * xs.getD (j + 1) 0) / 2 ^ s % 65536)
      rw [← unhide HS] at r3
      have R3 := hide r3
      clear r3 e hl HS
      rw [unhide HX2] at *
      generalize hxj : xs.getD j 0 = x at *
      have HJ := hide hxj
      clear hxj
      obtain ⟨hx0, hx1⟩ := hxb
      obtain ⟨hy0, hy1⟩ := hyb
      have hor := or_hi x2 x hy0 (by omega) hx0 hx1
      have hk1 : (j : Int) < (n : Int) := by omega
      have hk0 : (0 : Int) ≤ (j : Int) := by omega
      have hsum : x2 * 65536 + x = x + 65536 * x2 := by omega
      have HB2 := hide ((unhide HB).setCell (p := ⟨w.heap.size, j, none⟩) (Nat.le_refl _) (.int .i64 ((x + 65536 * x2) / 2 ^ s % 65536)))
      clear HO
      go_wp2
      go_roundw
      case rel => exact ⟨j, _, by omega, rfl, rfl, HJ, R3, HB2⟩
      case measure => simp [intOf]

theorem dn_take (s : Nat) (xs : List Int) (k : Nat) (h : k < xs.length) : (dn s xs).take (k + 1) = (dn s xs).take k ++ [(xs.getD k 0 + 65536 * xs.getD (k + 1) 0) / 2 ^ s % 65536] := by
  rw [take_succ' (by rw [dn_len]; exact h), dn_get s xs k h]

theorem limb_next (a : Option Addr) (n c : Nat) (xs : List Int) (k : Nat) (w : World) (hx : Sl w a xs) (hn : xs.length = n) :
    Calls Tryz.prog 109 #[.slice a n c, .int .i64 ((k : Int) + 1)] w fun e w' => e = .returned (.int .i64 (xs.getD (k + 1) 0)) ∧ w' = w := by
  have := limb_any a n c xs (k + 1) w hx hn
  have e : (((k + 1 : Nat)) : Int) = (k : Int) + 1 := by omega
  rw [e] at this
  exact this
set_option maxHeartbeats 4000000 in
theorem downS_any (a : Option Addr) (n c : Nat) (xs : List Int) (s : Nat) (w : World) (hx : Arg w a n c xs) (ox : okL xs) (h1 : n ≤ 1000000) (hs : s ≤ 15) :
    Calls Tryz.prog 105 #[.slice a n c, .int .i64 s] w (Out w (val xs / 2 ^ s)) := by
  obtain ⟨i0, hi, hz0, hz1, hz2⟩ := info_parts Tryz.info3
  have HN := hide hx.len
  have HX := hide hx.sl
  clear hx
  go_enter Tryz.func105, Tryz.ntmps105
  go_wp2_with (at_make; refine wpList_make_full _ rfl _ _ 23 rfl w.heap.size 3 i0 (.int .i64 0) 1 Tryz.underlying23 hi hz0 hz1 .i64 .i64 _ _ n rfl rfl (by omega) (by omega) (by rw [hz2]; omega) (by unfold maxLen; omega) (Nat.le_refl _) ?_)
  intro w1 hown hgrow
  have HO0 : Hid (w1.ownsRow w.heap.size 3 1 (.slice (some ⟨w.heap.size, 0, none⟩) n n) n ((rowL ((dn s xs).take 0) n).map (Value.int .i64))) := by
    rw [made_ints] at hown; rw [List.take_zero, rowL_nil]; exact hide hown
  have HB0 : Hid (Below w.heap.size w w1) := hide ((Below.refl _ _).grown hgrow (Nat.le_refl _) (fun k e => by cases e))
  clear hown hgrow
  have hp0 := (pow2_le s hs).1
  go_wp2
  go_loopw [12] (fun iv wr => ∃ (k : Nat), k ≤ n ∧ iv = .int .i64 k ∧
      Hid (wr.ownsRow w.heap.size 3 1 (.slice (some ⟨w.heap.size, 0, none⟩) n n) n ((rowL ((dn s xs).take k) n).map (Value.int .i64))) ∧ Hid (Below w.heap.size w wr)) (fun iv _ => n - (intOf iv).toNat)
  case atStart => exact ⟨0, Nat.zero_le _, rfl, HO0, HB0⟩
  case round =>
    obtain ⟨k, hk, rfl, HO, HB⟩ := hrel
    by_cases hlt : k < n
    · obtain ⟨b, off, rfl, hbw, hcw⟩ := (unhide HX).at2 (k := k) (by rw [unhide HN]; omega)
      have hcx := cell_later (unhide HB) hcw
      clear hcw
      have hxb := okL_get ox k
      have hyb := okL_get ox (k + 1)
      have HS := hide (dn_take s xs k (by rw [unhide HN]; omega))
      have SY := hide ((unhide HX).later (Nat.le_refl _) (unhide HB))
      have LY := hide (fun w h => limb_next (some ⟨b, off, none⟩) n c xs k w h (unhide HN))
      have hl : ((dn s xs).take k).length = k := by rw [List.length_take, dn_len, unhide HN]; omega
      obtain ⟨r1, r2, r3⟩ := rowL_owns (unhide HO) hl hlt ((xs.getD k 0 + 65536 * xs.getD (k + 1) 0) / 2 ^ s % 65536)
      rw [← unhide HS] at r3
      have R3 := hide r3
      clear r3
      generalize xs.getD k 0 = x at *
      generalize xs.getD (k + 1) 0 = y at *
      obtain ⟨hx0, hx1⟩ := hxb
      obtain ⟨hy0, hy1⟩ := hyb
      have hor := (or_commI x (y * 65536)).trans (or_hi y x hy0 (by omega) hx0 hx1)
      have hsum : y * 65536 + x = x + 65536 * y := by omega
      rw [hsum] at hor
      clear hsum
      have hd0 : 0 ≤ (x + 65536 * y) / 2 ^ s := Int.ediv_nonneg (by omega) (by omega)
      have hlt' : (k : Int) < (n : Int) := by omega
      have HL := hide hl
      clear hl
      have hw : IntKind.i64.wrap ((k : Int) + 1) = (k : Int) + 1 := by rw [IntKind.wrap_i64]; omega
      have hws : IntKind.u64.wrap (s : Int) = s := by rw [IntKind.wrap_u64]; omega
      have hwy : IntKind.i64.wrap (y * 65536) = y * 65536 := by rw [IntKind.wrap_i64]; omega
      have tm : ((x + 65536 * y) / 2 ^ s).tmod 65536 = (x + 65536 * y) / 2 ^ s % 65536 := Int.tmod_eq_emod_of_nonneg hd0
      have HB2 := hide (((unhide HB).setCell (p := ⟨w.heap.size, k, none⟩) (Nat.le_refl _) (.int .i64 ((x + 65536 * y) / 2 ^ s % 65536))).drew)
      go_upto_region 5 with fail
      go_region_held3 (fun w' => w'.cell? ⟨b, off + k, none⟩ = some (.int .i64 x)) (first | assumption | (refine cs_other ?_ ?_; assumption; omega))
        (first
        | (go_at_call 109; refine (unhide LY _ ?_).mono ?_; exact (unhide SY).drew; rintro e w3 ⟨rfl, rfl⟩))
      go_wp2
      go_roundw
      case rel => exact ⟨k + 1, by omega, by go_num, hide (owns_drewN (unhide R3) 1), HB2⟩
      case measure => simp [intOf]; omega
    · obtain rfl : k = n := by omega
      have hzl : (dn s xs).length = k := by rw [dn_len]; exact unhide HN
      have hf : rowL ((dn s xs).take k) k = dn s xs := by rw [List.take_of_length_le (by omega), rowL_full _ _ hzl]
      rw [hf] at HO
      have ho := Own.of_owns (zs := dn s xs) (unhide HO) hzl
      have harg0 : Arg wr (some ⟨w.heap.size, 0, none⟩) k k (dn s xs) := ⟨ho.sl, hzl, Nat.le_refl _, by unfold maxLen; omega, .inr ⟨_, _, rfl⟩⟩
      have H0 := hide (And.intro ho harg0)
      clear ho harg0 hzl hf
      go_wp2_with fail
      refine (cut_any _ k k (dn s xs) _ (unhide H0).2 (by omega)).mono ?_
      rintro e w2 ⟨a2, n2, c2, rfl, hb2, hown, harg⟩
      have HF : Hid (Below w.heap.size w w2 ∧ Own w.heap.size w2 a2 (trim (dn s xs)) ∧ Arg w2 a2 n2 c2 (trim (dn s xs)) ∧ Nm (trim (dn s xs)) (val xs / 2 ^ s)) := by
        refine hide ⟨below_on (unhide HB) hb2, hown.mono (unhide HB).size, harg, ?_⟩
        rw [← dn_val s xs hs ox]
        exact Nm.trimmed (dn_ok s xs)
      clear harg hown hb2
      go_wp2
      go_ret
      exact ⟨a2, n2, c2, _, rfl, (unhide HF).1, (unhide HF).2.1, (unhide HF).2.2.1, (unhide HF).2.2.2⟩
end Go.Proofs.YtdgonpbponnnaaaGreatDoor

/- Differences of limbs: the program's subLimbs (over slices.Clone). No condition beyond those typed. -/
import Derived.Test.YtdgonpbponnnaaaGreatDoorAddI
namespace Go.Proofs.YtdgonpbponnnaaaGreatDoor
open Go.RowKit
set_option linter.unusedVariables false
set_option maxRecDepth 100000
set_option linter.unusedSimpArgs false

set_option maxHeartbeats 1000000 in
theorem clone_none (c : Nat) (w : World) :
    Calls Tryz.prog 78 #[.slice none 0 c] w fun e w' => e = .returned (.slice none 0 0) ∧ w' = w := by
  have hq := fun w => Lib.run_eql_slice_nil (P := Tryz.prog) w 23 3 none 0 c 0 0 Tryz.underlying23
  go_enter Tryz.func78, Tryz.ntmps78
  go_wp2
  go_ret
  exact ⟨rfl, rfl⟩
set_option maxHeartbeats 1000000 in
theorem clone_some (b off n c : Nat) (xs : List Int) (w : World) (hs : Sl w (some ⟨b, off, none⟩) xs) (hn : xs.length = n) (h1 : n ≤ 1048576) :
    Calls Tryz.prog 78 #[.slice (some ⟨b, off, none⟩) n c] w fun e w' => ∃ g c', e = .returned (.slice (some ⟨g, 0, none⟩) n c') ∧ Below w.heap.size w w' ∧ w'.ownsRow w.heap.size 3 1 (.slice (some ⟨g, 0, none⟩) n c') n (xs.map (Value.int .i64)) := by
  obtain ⟨i0, hi, hz0, hz1, hz2⟩ := info_parts Tryz.info3
  have hq := fun w => Lib.run_eql_slice_nil (P := Tryz.prog) w 23 3 (some ⟨b, off, none⟩) n c 0 0 Tryz.underlying23
  have hcells : Hid (∀ q u, (xs.map (Value.int .i64))[q]? = some u → (w.alloc (.cells #[] 3)).cell? ((⟨b, off, none⟩ : Addr).add q) = some u) := by
    rcases hs with rfl | ⟨b', off', e, hb, hc⟩
    · exact hide (fun q u h => by simp at h)
    · simp only [Option.some.injEq, Addr.mk.injEq, and_true] at e
      obtain ⟨rfl, rfl⟩ := e
      have := cells_at (w := w.alloc (.cells #[] 3)) (b := b) (off := off) (k := xs.length) (xs := xs) (fun i hi => by
        rw [← hc i hi]; exact ((Below.refl _ _).alloc (Nat.le_refl _) _).cell (by exact hb)) (Nat.le_refl _)
      rw [List.take_length] at this
      exact hide this
  have hlen := hide (show (xs.map (Value.int .i64)).length = n * 1 by simp; exact hn)
  clear hn
  go_enter Tryz.func78, Tryz.ntmps78
  go_wp2_with (at_builtin; refine wpList_append_own _ rfl (.tmp 5) (.tmp 6) 23 rfl w.heap.size 3 i0 (.int .i64 0) 1 8 Tryz.underlying23 hi hz0 hz1 hz2 rfl (by decide) _ _ _ rfl (owns_empty w) ⟨b, off, none⟩ n c (xs.map (Value.int .i64)) rfl (unhide hlen) (unhide hcells) (one_cells _) (by unfold maxLen; omega) (by omega) (by simp) ?_)
  intro v' w1 hown hg hnil
  have hB := hide (below_alloc_grown hg (fun k e => by simp [Value.ownBlock] at e; omega))
  have hown' : w1.ownsRow w.heap.size 3 1 v' n (xs.map (Value.int .i64)) := by simpa using hown
  have HS : Hid (∃ g c', v' = .slice (some ⟨g, 0, none⟩) n c') := by
    rcases hown'.2 with ⟨h', _⟩ | ⟨g', cap', cur, h', _⟩
    · exact (hnil h').elim
    · exact hide ⟨g', cap', h'⟩
  obtain ⟨g, c', rfl⟩ := unhide HS
  have HO := hide hown'
  clear hown hg hnil hown' HS
  go_wp2
  go_ret
  exact ⟨g, c', rfl, unhide hB, unhide HO⟩

theorem mix_owns {w : World} {base g n cap k : Nat} {zs xs : List Int} (h : w.ownsRow base 3 1 (.slice (some ⟨g, 0, none⟩) n cap) n ((zs ++ xs.drop k).map (Value.int .i64))) (hk : zs.length = k) (hkn : k < n) (hn : xs.length = n) (d : Int) :
    w.cell? ⟨g, k, none⟩ = some (.int .i64 (xs.getD k 0)) ∧ w.frozen? ⟨g, k, none⟩ = false ∧
    (w.setCell ⟨g, k, none⟩ (.int .i64 d)).ownsRow base 3 1 (.slice (some ⟨g, 0, none⟩) n cap) n (((zs ++ [d]) ++ xs.drop (k + 1)).map (Value.int .i64)) := by
  refine ⟨?_, h.frozenAt k, ?_⟩
  · rw [h.cellAt k (by omega)]
    simp only [List.getElem?_map, List.getElem?_append, hk, Nat.lt_irrefl, if_false, Nat.sub_self, List.getElem?_drop, Nat.add_zero]
    rw [List.getElem?_eq_getElem (by omega)]
    simp [show k < xs.length by omega]
  · have e : (zs ++ xs.drop k).set k d = (zs ++ [d]) ++ xs.drop (k + 1) := by
      rw [List.set_append_right _ _ (by omega), hk, Nat.sub_self, List.drop_eq_getElem_cons (show k < xs.length by omega), List.set_cons_zero]
      simp
    rw [← e, List.map_set]
    exact (h.stored k (.int .i64 d)).1

set_option maxHeartbeats 1000000 in
theorem subI_nil (a a' : Option Addr) (m c c' : Nat) (ys : List Int) (w : World) (hx : Arg w a 0 c []) (hy : Arg w a' m c' ys) (oy : okL ys) (hle : val ys ≤ 0) :
    Calls Tryz.prog 92 #[.slice a 0 c, .slice a' m c'] w (Out w (0 - val ys)) := by
  have hv : val ys = 0 := by have := val_nonneg oy; omega
  have HV := hide hv
  have had := hx.addr
  clear hx hy hle hv
  rcases had with ⟨rfl, rfl⟩ | ⟨b, off, rfl⟩
  · go_enter Tryz.func92, Tryz.ntmps92
    go_wp2_with fail
    refine (clone_none 0 w).mono ?_
    rintro e w1 ⟨rfl, rfl⟩
    go_wp2
    refine wp_loop_rounds 1 ?_
    rw [rounds_succ]
    go_wp2_with fail
    refine (trim_nil_any none 0 w1).mono ?_
    rintro e w2 ⟨rfl, rfl⟩
    go_wp2
    go_ret
    exact ⟨none, 0, 0, [], rfl, Below.refl _ _, .inl rfl, Arg.none _, by rw [unhide HV]; exact Nm.zero⟩
  · go_enter Tryz.func92, Tryz.ntmps92
    go_wp2_with fail
    refine (clone_some b off 0 c [] w (.inl rfl) rfl (by omega)).mono ?_
    rintro e w1 ⟨g, c1, rfl, hb, hown⟩
    have HB := hide hb
    clear hb hown
    go_wp2
    refine wp_loop_rounds 1 ?_
    rw [rounds_succ]
    go_wp2_with fail
    refine (trim_nil_any _ _ w1).mono ?_
    rintro e w2 ⟨rfl, rfl⟩
    go_wp2
    go_ret
    exact ⟨none, 0, 0, [], rfl, unhide HB, .inl rfl, Arg.none _, by rw [unhide HV]; exact Nm.zero⟩

/-- Behind a difference that is not below 0 nothing is left to be taken. -/
theorem Acc.full {zs : List Int} {n : Nat} {cy V : Int} (h : Acc zs n cy V) (hV : 0 ≤ V) (h1 : V < 65536 ^ n) : cy = 0 ∧ val zs = V := by
  have e := h.v
  have l1 := val_nonneg h.ok
  have l2 := val_lt h.ok
  rw [h.len] at l2
  have hp : (0 : Int) < 65536 ^ n := Int.pow_pos (by omega)
  have hc : cy = 0 := by
    rcases Int.lt_trichotomy cy 0 with hc | hc | hc
    · have : 65536 ^ n * cy ≤ 65536 ^ n * (-1) := Int.mul_le_mul_of_nonneg_left (by omega) (by omega)
      omega
    · exact hc
    · have : 65536 ^ n * 1 ≤ 65536 ^ n * cy := Int.mul_le_mul_of_nonneg_left (by omega) (by omega)
      omega
  subst hc
  simp at e
  exact ⟨rfl, e⟩

set_option maxHeartbeats 2000000 in
theorem subI_cons (b off : Nat) (a' : Option Addr) (n m c c' : Nat) (xs ys : List Int) (w : World) (hs : Sl w (some ⟨b, off, none⟩) xs) (hn : xs.length = n) (hy : Arg w a' m c' ys) (ox : okL xs) (oy : okL ys) (h0 : 0 < n) (h1 : n ≤ 1048576) (hmn : m ≤ n) (hle : val ys ≤ val xs) :
    Calls Tryz.prog 92 #[.slice (some ⟨b, off, none⟩) n c, .slice a' m c'] w (Out w (val xs - val ys)) := by
  have HN := hide hn
  have HM := hide hy.len
  have HX := hide hs
  have HY := hide hy.sl
  have hmask := and_mask
  clear hn hs hy
  go_enter Tryz.func92, Tryz.ntmps92
  go_wp2_with fail
  refine (clone_some b off n c xs w (unhide HX) (unhide HN) h1).mono ?_
  rintro e w1 ⟨g, c1, rfl, hb0, hown0⟩
  have hgb : w.heap.size ≤ g := by
    rcases hown0.2 with ⟨h', _⟩ | ⟨g', cap', cur, h', hg, _⟩
    · simp at h'
    · simp only [Value.slice.injEq, Option.some.injEq, Addr.mk.injEq, and_true, true_and] at h'
      obtain ⟨rfl, rfl⟩ := h'
      exact hg
  have HC1 : Hid (n ≤ c1 ∧ c1 ≤ maxLen) := by
    rcases hown0.2 with ⟨h', _⟩ | ⟨g', cap', cur, h', hg, _, q1, q2, _⟩
    · simp at h'
    · simp only [Value.slice.injEq, Option.some.injEq, Addr.mk.injEq, and_true, true_and] at h'
      obtain ⟨rfl, rfl⟩ := h'
      exact hide ⟨q1, q2⟩
  have HB0 := hide hb0
  have HO0 := hide hown0
  clear hb0 hown0
  go_wp2
  go_loopw [6, 13] (fun cv i wr => ∃ (k : Nat) (cy : Int) (zs : List Int), k ≤ n ∧ i = .int .i64 k ∧ cv = .int .i64 cy ∧ -1 ≤ cy ∧ cy ≤ 0 ∧ Hid (Acc zs k cy (val (xs.take k) - val (ys.take k))) ∧
      Hid (wr.ownsRow w.heap.size 3 1 (.slice (some ⟨g, 0, none⟩) n c1) n ((zs ++ xs.drop k).map (Value.int .i64))) ∧ Hid (Below w.heap.size w wr)) (fun _ i _ => n - (intOf i).toNat)
  case atStart => exact ⟨0, 0, [], Nat.zero_le _, rfl, rfl, by omega, by omega, hide (by simpa [val] using Acc.start), hide (by simpa using unhide HO0), HB0⟩
  case round =>
    obtain ⟨k, cy, zs, hk, rfl, rfl, hc0, hc1, HA, HO, HB⟩ := hrel
    by_cases hlt : k < n
    · have hxb := okL_get ox k
      have hyb := okL_get oy k
      have hvx := hide (val_take_succ xs k)
      have hvy := hide (val_take_succ ys k)
      by_cases hkm : k < m
      · obtain ⟨b', off', rfl, hcy⟩ := ((unhide HY).later (Nat.le_refl _) (unhide HB)).at (k := k) (by rw [unhide HM]; exact hkm)
        obtain ⟨r1, r2, r3⟩ := mix_owns (unhide HO) (unhide HA).len hlt (unhide HN) ((cy + xs.getD k 0 - ys.getD k 0) % 65536)
        generalize xs.getD k 0 = x at *
        generalize ys.getD k 0 = y at *
        obtain ⟨hx0, hx1⟩ := hxb
        obtain ⟨hy0, hy1⟩ := hyb
        have hkm' : (k : Int) < (m : Int) := by omega
        have HR := hide r3
        have HB2 := hide ((unhide HB).setCell (p := ⟨g, k, none⟩) hgb (.int .i64 ((cy + x - y) % 65536)))
        have HA2 := hide ((unhide HA).step (cy + x - y))
        clear r3 HO
        go_wp2
        go_roundw
        case rel => exact ⟨k + 1, (cy + x - y) / 65536, zs ++ [(cy + x - y) % 65536], by omega, by go_num, rfl, by omega, by omega, hide ((unhide HA2).cast (by rw [unhide hvx, unhide hvy, Int.mul_sub, Int.mul_sub, Int.mul_add]; omega)), HR, HB2⟩
        case measure => simp [intOf]; omega
      · have hy00 : ys.getD k 0 = 0 := by simp only [List.getD_eq_getElem?_getD]; rw [List.getElem?_eq_none (by rw [unhide HM]; omega)]; rfl
        rw [hy00] at hvy
        clear hy00 hyb
        obtain ⟨r1, r2, r3⟩ := mix_owns (unhide HO) (unhide HA).len hlt (unhide HN) ((cy + xs.getD k 0) % 65536)
        generalize xs.getD k 0 = x at *
        obtain ⟨hx0, hx1⟩ := hxb
        have hkm' : ¬ (k : Int) < (m : Int) := by omega
        have HR := hide r3
        have HB2 := hide ((unhide HB).setCell (p := ⟨g, k, none⟩) hgb (.int .i64 ((cy + x) % 65536)))
        have HA2 := hide ((unhide HA).step (cy + x))
        clear r3 HO
        go_wp2
        go_roundw
        case rel => exact ⟨k + 1, (cy + x) / 65536, zs ++ [(cy + x) % 65536], by omega, by go_num, rfl, by omega, by omega, hide ((unhide HA2).cast (by rw [unhide hvx, unhide hvy, Int.mul_sub, Int.mul_add]; omega)), HR, HB2⟩
        case measure => simp [intOf]; omega
    · obtain rfl : k = n := by omega
      go_wp2_with fail
      have ho : Own w.heap.size wr (some ⟨g, 0, none⟩) zs := Own.of_owns (zs := zs) (by have := unhide HO; rw [List.drop_of_length_le (by rw [unhide HN]; exact Nat.le_refl _), List.append_nil] at this; exact this) (unhide HA).len
      have harg0 : Arg wr (some ⟨g, 0, none⟩) k c1 zs := ⟨ho.sl, (unhide HA).len, (unhide HC1).1, (unhide HC1).2, .inr ⟨_, _, rfl⟩⟩
      refine (trim_any _ k c1 zs _ harg0).mono ?_
      rintro e w2 ⟨a2, n2, c2, rfl, rfl, harg, hown⟩
      have HF : Hid (Own w.heap.size w2 a2 (trim zs) ∧ Arg w2 a2 n2 c2 (trim zs) ∧ Nm (trim zs) (val xs - val ys)) := by
        refine hide ⟨hown _ _ ho, harg _ harg0, ?_⟩
        have hA := unhide HA
        rw [List.take_of_length_le (by rw [unhide HN]; exact Nat.le_refl _), List.take_of_length_le (by rw [unhide HM]; omega)] at hA
        have l := val_lt ox
        have l2 := val_nonneg oy
        rw [unhide HN] at l
        have e2 := (hA.full (by omega) (by omega)).2
        rw [← e2]
        exact Nm.trimmed hA.ok
      clear harg hown ho harg0
      go_wp2
      go_ret
      exact ⟨a2, n2, c2, _, rfl, unhide HB, (unhide HF).1, (unhide HF).2.1, (unhide HF).2.2⟩

theorem subI_any (a a' : Option Addr) (n m c c' : Nat) (xs ys : List Int) (w : World) (hx : Arg w a n c xs) (hy : Arg w a' m c' ys) (ox : okL xs) (oy : okL ys) (h1 : n ≤ 1048576) (hmn : m ≤ n) (hle : val ys ≤ val xs) :
    Calls Tryz.prog 92 #[.slice a n c, .slice a' m c'] w (Out w (val xs - val ys)) := by
  by_cases h0 : n = 0
  · subst h0
    have e : xs = [] := List.length_eq_zero_iff.1 hx.len
    subst e
    exact subI_nil a a' m c c' ys w hx hy oy hle
  · rcases hx.sl with rfl | ⟨b, off, rfl, hb, hc⟩
    · have := hx.len; simp at this; omega
    · exact subI_cons b off a' n m c c' xs ys w hx.sl hx.len hy ox oy (by omega) h1 hmn hle
end Go.Proofs.YtdgonpbponnnaaaGreatDoor

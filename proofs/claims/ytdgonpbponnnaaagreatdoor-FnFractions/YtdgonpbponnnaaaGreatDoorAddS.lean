/- Sums and differences of limbs: the specification's l1Limb, l1AddLimbs and l1SubLimbs. No condition beyond those typed. -/
import Derived.Test.YtdgonpbponnnaaaGreatDoorSubI
namespace Go.Proofs.YtdgonpbponnnaaaGreatDoor
open Go.RowKit
set_option linter.unusedVariables false
set_option maxRecDepth 100000
set_option linter.unusedSimpArgs false

theorem getD_out {xs : List Int} {k n : Nat} (hn : xs.length = n) (h : n ≤ k) : xs.getD k 0 = 0 := by
  simp only [List.getD_eq_getElem?_getD]; rw [List.getElem?_eq_none (by omega)]; rfl

theorem limb_any (a : Option Addr) (n c : Nat) (xs : List Int) (k : Nat) (w : World) (hx : Sl w a xs) (hn : xs.length = n) :
    Calls Tryz.prog 109 #[.slice a n c, .int .i64 k] w fun e w' => e = .returned (.int .i64 (xs.getD k 0)) ∧ w' = w := by
  by_cases h : k < n
  · obtain ⟨b, off, rfl, hc⟩ := hx.at (k := k) (by omega)
    clear hx hn
    generalize xs.getD k 0 = x at *
    have h' : (k : Int) < (n : Int) := by omega
    go_enter Tryz.func109, Tryz.ntmps109
    go_wp2
    go_ret
    exact ⟨rfl, rfl⟩
  · rw [getD_out hn (by omega)]
    clear hx hn
    have h' : ¬ (k : Int) < (n : Int) := by omega
    go_enter Tryz.func109, Tryz.ntmps109
    go_wp2
    go_ret
    exact ⟨rfl, rfl⟩

theorem push_owns {w w1 : World} {base : Nat} {v v' : Value} {k : Nat} {zs : List Int} {d : Int} (hown : w1.ownsRow base 3 1 v' (k + 1) (zs.map (Value.int .i64) ++ [.int .i64 d])) : w1.ownsRow base 3 1 v' (k + 1) ((zs ++ [d]).map (Value.int .i64)) := by
  simpa using hown
theorem below_push {w wr w1 : World} {o : Obj} {base : Nat} {v : Value} {n : Nat} {xs : List Value} (hb : Below w.heap.size w wr) (hown : wr.ownsRow w.heap.size 3 1 v n xs) (hg : (wr.alloc o).grownBy w1 v.ownBlock) : Below w.heap.size w w1 := by
  refine (hb.alloc hb.size o).grown hg (by simp; have := hb.size; omega) ?_
  intro k e
  rcases hown.2 with ⟨rfl, _⟩ | ⟨g, cap, cur, rfl, hgb, _⟩
  · simp [Value.ownBlock] at e
  · simp [Value.ownBlock] at e; omega
theorem new_cell (w : World) (d : Int) : ∀ j u, [Value.int .i64 d][j]? = some u → (w.alloc (.cells #[.int .i64 d] 3)).cell? ((⟨w.heap.size, 0, none⟩ : Addr).add j) = some u := by
  intro j u hj
  match j, hj with
  | 0, hj => simp at hj; subst hj; simp [Addr.add]

set_option maxHeartbeats 4000000 in
theorem addS_any (a a' : Option Addr) (n m c c' : Nat) (xs ys : List Int) (w : World) (hx : Arg w a n c xs) (hy : Arg w a' m c' ys) (ox : okL xs) (oy : okL ys) (h1 : n ≤ 1048576) (h2 : m ≤ 1048576) :
    Calls Tryz.prog 94 #[.slice a n c, .slice a' m c'] w (OutU w (val xs + val ys) (max n m + 1)) := by
  obtain ⟨i0, hi, hz0, hz1, hz2⟩ := info_parts Tryz.info3
  have HN := hide hx.len
  have HM := hide hy.len
  have HX := hide hx.sl
  have HY := hide hy.sl
  clear hx hy
  go_enter Tryz.func94, Tryz.ntmps94
  go_wp2
  go_loopw [5, 6, 7] (fun v cv i wr => ∃ (k : Nat) (cy : Int) (zs : List Int), k ≤ max n m + 1 ∧ i = .int .i64 k ∧ cv = .int .i64 cy ∧ 0 ≤ cy ∧ cy ≤ 1 ∧ (k = max n m + 1 → cy = 0) ∧ Hid (Acc zs k cy (val (xs.take k) + val (ys.take k))) ∧
      Hid (wr.ownsRow w.heap.size 3 1 v k (zs.map (Value.int .i64))) ∧ Hid (Below w.heap.size w wr)) (fun _ _ i _ => max n m + 1 - (intOf i).toNat)
  case atStart => exact ⟨0, 0, [], Nat.zero_le _, rfl, rfl, by omega, by omega, fun _ => rfl, hide (by simpa [val] using Acc.start), hide (World.ownsRow_nil _ _ _ _), hide (Below.refl _ _)⟩
  case round =>
    obtain ⟨k, cy, zs, hk, rfl, rfl, hc0, hc1, hcz, HA, HO, HB⟩ := hrel
    by_cases hgo : k < n ∨ k < m ∨ 0 < cy
    · have hklt : k < max n m + 1 := by
        rcases hgo with h | h | h
        · omega
        · omega
        · by_cases hq : k = max n m + 1
          · have := hcz hq; omega
          · omega
      have hxb := okL_get ox k
      have hyb := okL_get oy k
      have hvx := hide (val_take_succ xs k)
      have hvy := hide (val_take_succ ys k)
      have SX := hide ((unhide HX).later (Nat.le_refl _) (unhide HB))
      have SY := hide ((unhide HY).later (Nat.le_refl _) (unhide HB))
      have hlast : k = max n m → xs.getD k 0 = 0 ∧ ys.getD k 0 = 0 := fun e => ⟨getD_out (unhide HN) (by omega), getD_out (unhide HM) (by omega)⟩
      have LX := hide (fun w h => limb_any a n c xs k w h (unhide HN))
      have LY := hide (fun w h => limb_any a' m c' ys k w h (unhide HM))
      generalize xs.getD k 0 = x at *
      generalize ys.getD k 0 = y at *
      obtain ⟨hx0, hx1⟩ := hxb
      obtain ⟨hy0, hy1⟩ := hyb
      have HLast := hide hlast
      have HCZ := hide hcz
      have HA2 := hide ((unhide HA).step (x + y + cy))
      clear hlast hcz
      rcases (show (k < n) ∨ (¬ k < n ∧ k < m) ∨ (¬ k < n ∧ ¬ k < m ∧ 0 < cy) from by omega) with g1 | ⟨g1, g2⟩ | ⟨g1, g2, g3⟩
      · have d1 : (k : Int) < (n : Int) := by omega
        go_wp2_with fail
        refine (unhide LX _ (unhide SX)).mono ?_
        rintro e w2 ⟨rfl, rfl⟩
        go_wp2_with fail
        refine (unhide LY _ (unhide SY)).mono ?_
        rintro e w3 ⟨rfl, rfl⟩
        go_wp2_with (at_builtin; refine wpList_append_own _ rfl (.tmp 34) (.tmp 37) 23 rfl w.heap.size 3 i0 (.int .i64 0) 1 8 Tryz.underlying23 hi hz0 hz1 hz2 rfl (by decide) _ _ _ rfl ((unhide HO).alloc _) ⟨_, 0, none⟩ 1 1 [.int .i64 ((x + y + cy) % 65536)] rfl rfl (new_cell _ _) (fun u hu => by simp at hu; subst hu; rfl) (by unfold maxLen; omega) (by omega) (by have := (unhide HB).size; simp; omega) ?_)
        intro v' w1 hown hg _
        have HR := hide (push_owns (w := w) (v := v') hown)
        have HB2 := hide (below_push (base := 0) (unhide HB) (unhide HO) hg)
        clear hown hg
        go_wp2
        go_roundw
        case rel => exact ⟨k + 1, (x + y + cy) / 65536, zs ++ [(x + y + cy) % 65536], by omega, by go_num, rfl, by omega, by omega, fun e => by have := unhide HLast (by omega); omega, hide ((unhide HA2).cast (by rw [unhide hvx, unhide hvy, Int.mul_sub, Int.mul_add, Int.mul_add]; omega)), HR, HB2⟩
        case measure => simp [intOf]; omega
      · have d1 : decide ((k : Int) < (n : Int)) = false := by simp; omega
        have d2 : (k : Int) < (m : Int) := by omega
        go_wp2_with fail
        refine (unhide LX _ (unhide SX)).mono ?_
        rintro e w2 ⟨rfl, rfl⟩
        go_wp2_with fail
        refine (unhide LY _ (unhide SY)).mono ?_
        rintro e w3 ⟨rfl, rfl⟩
        go_wp2_with (at_builtin; refine wpList_append_own _ rfl (.tmp 34) (.tmp 37) 23 rfl w.heap.size 3 i0 (.int .i64 0) 1 8 Tryz.underlying23 hi hz0 hz1 hz2 rfl (by decide) _ _ _ rfl ((unhide HO).alloc _) ⟨_, 0, none⟩ 1 1 [.int .i64 ((x + y + cy) % 65536)] rfl rfl (new_cell _ _) (fun u hu => by simp at hu; subst hu; rfl) (by unfold maxLen; omega) (by omega) (by have := (unhide HB).size; simp; omega) ?_)
        intro v' w1 hown hg _
        have HR := hide (push_owns (w := w) (v := v') hown)
        have HB2 := hide (below_push (base := 0) (unhide HB) (unhide HO) hg)
        clear hown hg
        go_wp2
        go_roundw
        case rel => exact ⟨k + 1, (x + y + cy) / 65536, zs ++ [(x + y + cy) % 65536], by omega, by go_num, rfl, by omega, by omega, fun e => by have := unhide HLast (by omega); omega, hide ((unhide HA2).cast (by rw [unhide hvx, unhide hvy, Int.mul_sub, Int.mul_add, Int.mul_add]; omega)), HR, HB2⟩
        case measure => simp [intOf]; omega
      · have d1 : decide ((k : Int) < (n : Int)) = false := by simp; omega
        have d2 : decide ((k : Int) < (m : Int)) = false := by simp; omega
        go_wp2_with fail
        refine (unhide LX _ (unhide SX)).mono ?_
        rintro e w2 ⟨rfl, rfl⟩
        go_wp2_with fail
        refine (unhide LY _ (unhide SY)).mono ?_
        rintro e w3 ⟨rfl, rfl⟩
        go_wp2_with (at_builtin; refine wpList_append_own _ rfl (.tmp 34) (.tmp 37) 23 rfl w.heap.size 3 i0 (.int .i64 0) 1 8 Tryz.underlying23 hi hz0 hz1 hz2 rfl (by decide) _ _ _ rfl ((unhide HO).alloc _) ⟨_, 0, none⟩ 1 1 [.int .i64 ((x + y + cy) % 65536)] rfl rfl (new_cell _ _) (fun u hu => by simp at hu; subst hu; rfl) (by unfold maxLen; omega) (by omega) (by have := (unhide HB).size; simp; omega) ?_)
        intro v' w1 hown hg _
        have HR := hide (push_owns (w := w) (v := v') hown)
        have HB2 := hide (below_push (base := 0) (unhide HB) (unhide HO) hg)
        clear hown hg
        go_wp2
        go_roundw
        case rel => exact ⟨k + 1, (x + y + cy) / 65536, zs ++ [(x + y + cy) % 65536], by omega, by go_num, rfl, by omega, by omega, fun e => by have := unhide HLast (by omega); omega, hide ((unhide HA2).cast (by rw [unhide hvx, unhide hvy, Int.mul_sub, Int.mul_add, Int.mul_add]; omega)), HR, HB2⟩
        case measure => simp [intOf]; omega
    · have d1 : decide ((k : Int) < (n : Int)) = false := by simp; omega
      have d2 : decide ((k : Int) < (m : Int)) = false := by simp; omega
      have d3 : ¬ (0 : Int) < cy := by omega
      obtain ⟨a2, c2, rfl, ho, ha⟩ := owns_shape (unhide HO) (unhide HA).len
      have HF := hide (And.intro ho ha)
      clear ho ha
      go_wp2
      go_ret
      refine ⟨a2, _, c2, zs, rfl, unhide HB, (unhide HF).1, (unhide HF).2, (unhide HA).ok, ?_, by rw [(unhide HA).len]; exact hk⟩
      have e1 := (unhide HA).v
      rw [List.take_of_length_le (by rw [unhide HN]; omega), List.take_of_length_le (by rw [unhide HM]; omega)] at e1
      have e2 : cy = 0 := by omega
      rw [e2] at e1
      simpa using e1
end Go.Proofs.YtdgonpbponnnaaaGreatDoor

/- Differences of limbs: the specification's l1SubLimbs. No condition beyond those typed. -/
import Derived.Test.YtdgonpbponnnaaaGreatDoorAddS
namespace Go.Proofs.YtdgonpbponnnaaaGreatDoor
open Go.RowKit
set_option linter.unusedVariables false
set_option maxRecDepth 100000
set_option linter.unusedSimpArgs false

theorem Sl.drewN {w : World} {a : Option Addr} {xs : List Int} (h : Sl w a xs) (n : Nat) : Sl (w.drewN n) a xs := h.later (Nat.le_refl _) (below_drewN (Below.refl _ _) n)

theorem owns_drewN {w : World} {base : Nat} {e : TypeId} {size : Nat} {v : Value} {n : Nat} {xs : List Value} (h : w.ownsRow base e size v n xs) (k : Nat) : (w.drewN k).ownsRow base e size v n xs := h

set_option maxHeartbeats 4000000 in
theorem subS_any (a a' : Option Addr) (n m c c' : Nat) (xs ys : List Int) (w : World) (hx : Arg w a n c xs) (hy : Arg w a' m c' ys) (ox : okL xs) (oy : okL ys) (h1 : n ≤ 1048576) (hmn : m ≤ n) (hle : val ys ≤ val xs) :
    Calls Tryz.prog 95 #[.slice a n c, .slice a' m c'] w (Out w (val xs - val ys)) := by
  obtain ⟨i0, hi, hz0, hz1, hz2⟩ := info_parts Tryz.info3
  have HN := hide hx.len
  have HM := hide hy.len
  have HX := hide hx.sl
  have HY := hide hy.sl
  clear hx hy
  go_enter Tryz.func95, Tryz.ntmps95
  go_wp2
  go_loopw [5, 6, 11] (fun v cv i wr => ∃ (k : Nat) (lf : Int) (zs : List Int), k ≤ n ∧ i = .int .i64 k ∧ cv = .int .i64 lf ∧ 0 ≤ lf ∧ lf ≤ 1 ∧ Hid (Acc zs k (-lf) (val (xs.take k) - val (ys.take k))) ∧
      Hid (wr.ownsRow w.heap.size 3 1 v k (zs.map (Value.int .i64))) ∧ Hid (Below w.heap.size w wr)) (fun _ _ i _ => n - (intOf i).toNat)
  case atStart => exact ⟨0, 0, [], Nat.zero_le _, rfl, rfl, by omega, by omega, hide (by simpa [val] using Acc.start), hide (World.ownsRow_nil _ _ _ _), hide (Below.refl _ _)⟩
  case round =>
    obtain ⟨k, lf, zs, hk, rfl, rfl, hc0, hc1, HA, HO, HB⟩ := hrel
    by_cases hlt : k < n
    · have hxb := okL_get ox k
      have hyb := okL_get oy k
      have hvx := hide (val_take_succ xs k)
      have hvy := hide (val_take_succ ys k)
      obtain ⟨b, off, rfl, hcx⟩ := ((unhide HX).later (Nat.le_refl _) (unhide HB)).at (k := k) (by rw [unhide HN]; exact hlt)
      have SY := hide ((unhide HY).later (Nat.le_refl _) (unhide HB))
      have LY := hide (fun w h => limb_any a' m c' ys k w h (unhide HM))
      generalize xs.getD k 0 = x at *
      generalize ys.getD k 0 = y at *
      obtain ⟨hx0, hx1⟩ := hxb
      obtain ⟨hy0, hy1⟩ := hyb
      have hk' : (k : Int) < (n : Int) := by omega
      have HA2 := hide ((unhide HA).step (x - y - lf))
      by_cases hneg : x - y - lf < 0
      · have hneg' : x - y - lf < 0 := hneg
        go_wp2
        go_quiet ((go_at_call 109; exact Calls.quiet_of_same (unhide LY _ ((unhide SY).drewN _))))
        have HOd := hide (owns_drewN (unhide HO) nq)
        have HBd := hide (below_drewN (unhide HB) nq)
        clear HO HB SY hcx
        generalize wr.drewN nq = wq at *
        go_wp2_with (at_builtin; refine wpList_append_own _ rfl (.tmp 28) (.tmp 30) 23 rfl w.heap.size 3 i0 (.int .i64 0) 1 8 Tryz.underlying23 hi hz0 hz1 hz2 rfl (by decide) _ _ _ rfl ((unhide HOd).alloc _) ⟨_, 0, none⟩ 1 1 [.int .i64 (x - y - lf + 65536)] rfl rfl (new_cell _ _) (fun u hu => by simp at hu; subst hu; rfl) (by unfold maxLen; omega) (by omega) (by have := (unhide HBd).size; simp; omega) ?_)
        intro v' w1 hown hg _
        have HR := hide (push_owns (w := w) (v := v') hown)
        have HB2 := hide (below_push (base := 0) (unhide HBd) (unhide HOd) hg)
        clear hown hg
        go_wp2
        go_roundw
        case rel => exact ⟨k + 1, 1, zs ++ [x - y - lf + 65536], by omega, by go_num, rfl, by omega, by omega, hide (by have := (unhide HA2).cast (V' := val (xs.take (k + 1)) - val (ys.take (k + 1))) (by rw [unhide hvx, unhide hvy, Int.mul_sub, Int.mul_sub, Int.mul_sub, Int.mul_neg]; omega); rw [show (x - y - lf) % 65536 = x - y - lf + 65536 by omega, show (x - y - lf) / 65536 = -1 by omega] at this; exact this), HR, HB2⟩
        case measure => simp [intOf]; omega
      · have hneg' : ¬ x - y - lf < 0 := hneg
        go_wp2
        go_quiet ((go_at_call 109; exact Calls.quiet_of_same (unhide LY _ ((unhide SY).drewN _))))
        have HOd := hide (owns_drewN (unhide HO) nq)
        have HBd := hide (below_drewN (unhide HB) nq)
        clear HO HB SY hcx
        generalize wr.drewN nq = wq at *
        go_wp2_with (at_builtin; refine wpList_append_own _ rfl (.tmp 28) (.tmp 30) 23 rfl w.heap.size 3 i0 (.int .i64 0) 1 8 Tryz.underlying23 hi hz0 hz1 hz2 rfl (by decide) _ _ _ rfl ((unhide HOd).alloc _) ⟨_, 0, none⟩ 1 1 [.int .i64 (x - y - lf)] rfl rfl (new_cell _ _) (fun u hu => by simp at hu; subst hu; rfl) (by unfold maxLen; omega) (by omega) (by have := (unhide HBd).size; simp; omega) ?_)
        intro v' w1 hown hg _
        have HR := hide (push_owns (w := w) (v := v') hown)
        have HB2 := hide (below_push (base := 0) (unhide HBd) (unhide HOd) hg)
        clear hown hg
        go_wp2
        go_roundw
        case rel => exact ⟨k + 1, 0, zs ++ [x - y - lf], by omega, by go_num, rfl, by omega, by omega, hide (by have := (unhide HA2).cast (V' := val (xs.take (k + 1)) - val (ys.take (k + 1))) (by rw [unhide hvx, unhide hvy, Int.mul_sub, Int.mul_sub, Int.mul_sub, Int.mul_neg]; omega); rw [show (x - y - lf) % 65536 = x - y - lf by omega, show (x - y - lf) / 65536 = -0 by omega] at this; exact this), HR, HB2⟩
        case measure => simp [intOf]; omega
    · obtain rfl : k = n := by omega
      obtain ⟨a2, c2, rfl, ho, ha⟩ := owns_shape (unhide HO) (unhide HA).len
      have HF := hide (And.intro ho ha)
      clear ho ha
      go_wp2_with fail
      refine (cut_any a2 k c2 zs _ (unhide HF).2 h1).mono ?_
      rintro e w2 ⟨a3, n3, c3, rfl, hb3, ho3, ha3⟩
      have HG : Hid (Below w.heap.size w w2 ∧ Own w.heap.size w2 a3 (trim zs) ∧ Arg w2 a3 n3 c3 (trim zs) ∧ Nm (trim zs) (val xs - val ys)) := by
        refine hide ⟨(unhide HB).trans (hb3.mono (unhide HB).size), ho3.mono (unhide HB).size, ha3, ?_⟩
        have hA := unhide HA
        rw [List.take_of_length_le (by rw [unhide HN]; exact Nat.le_refl _), List.take_of_length_le (by rw [unhide HM]; omega)] at hA
        have l := val_lt ox
        have l2 := val_nonneg oy
        rw [unhide HN] at l
        have e2 := (hA.full (by omega) (by omega)).2
        rw [← e2]
        exact Nm.trimmed hA.ok
      clear hb3 ho3 ha3
      go_wp2
      go_ret
      exact ⟨a3, n3, c3, _, rfl, (unhide HG).1, (unhide HG).2.1, (unhide HG).2.2.1, (unhide HG).2.2.2⟩
end Go.Proofs.YtdgonpbponnnaaaGreatDoor

/- Draws of chapter 11: a simple way, a guard and a triangle. No condition beyond those typed. -/
import Derived.Test.YtomekmhonfofkaaGreatInn8
import Derived.Test.YtomekmhonfofkaaGreatDrw8
import Derived.Test.YtomekmhonfofkaaGreatTrH
namespace Go.Proofs.YtomekmhonfofkaaGreat
open Go.RowKit
set_option linter.unusedVariables false
set_option maxRecDepth 100000
set_option linter.unusedSimpArgs false

def SmD (C : Nat) (w : World) (e : Ending) (w' : World) : Prop := ∃ (a : Option Addr) (n c : Nat) (l : List (Int × Int)), e = .returned (.slice a n c) ∧ ArP w' a n c l ∧ n ≤ 1000 ∧ But C (C + 1) w w'
def OutS11 (w : World) (e : Ending) (w' : World) : Prop := ∃ (a : Option Addr) (n c : Nat) (l : List (Int × Int)), e = .returned (.slice a n c) ∧ ArP w' a n c l ∧ n ≤ 1000 ∧ Below w.heap.size w w'
theorem isV_way {l : List (Int × Int)} (h : isV l = true) : wayB l = true := by
  unfold isV at h
  split at h
  · assumption
  · cases h
theorem tv_some {l : List (Int × Int)} (h : wayB l = true) : (tvV l).length = l.length ∧ 0 < l.length := by
  have := (way_parts h).1.1
  unfold tvV
  rw [h]
  simp only [if_true]
  rw [tvN_len]
  omega
set_option maxHeartbeats 8000000 in
theorem simple_v (C T : Nat) (w : World) (h : Cur C T w) (hT : T ≤ 100000) :
    Calls Tryz.prog 38 #[.pointer (some ⟨C, 0, none⟩)] w (SmD C w) := by
  have ltC := h.lt
  have CU : Hid (Cur C (T + 300 * 0) w) := hide h
  have BT : Hid (But C (C + 1) w w) := hide (But.refl _ _ _)
  clear h
  go_enter Tryz.func38, Tryz.ntmps38
  go_wp2_with fail
  go_loopw [3] (fun tv wr => ∃ k : Nat, k ≤ 3 ∧ tv = .int .i64 k ∧ Hid (Cur C (T + 300 * k) wr) ∧ Hid (But C (C + 1) w wr)) (fun tv _ => 3 - (intOf tv).toNat)
  case atStart => exact ⟨0, by omega, rfl, CU, BT⟩
  case round =>
    clear CU BT
    obtain ⟨k, hk, rfl, CU, BT⟩ := hrel
    have ltr := (unhide CU).lt
    by_cases hlt : k < 3
    · have hlt' : (k : Int) < 3 := by omega
      go_wp2_with fail
      refine (way_v C (T + 300 * k) _ (unhide CU) (by omega)).mono ?_
      rintro e w1 ⟨a1, m1, c1', l, rfl, ar, nr, hm, at_, c1, bt⟩
      replace CU := hide c1
      replace BT := hide ((unhide BT).trans bt)
      have AR := hide ar
      have AT : Hid (∃ G, a1 = some ⟨G, 0, none⟩ ∧ C < G) := hide (by obtain ⟨G, e, h⟩ := at_; exact ⟨G, e, by omega⟩)
      have CW := hide (isV_way (l := l))
      have TS := hide (tv_some (l := l))
      have LN := hide ar.len
      have CT := hide (fun w (k : ArP w a1 m1 c1' l) => TurnAllS a1 m1 c1' l w k (by omega))
      have CS := hide (fun w (k : ArP w a1 m1 c1' l) => IsSimpleS a1 m1 c1' l w k (by omega))
      clear ar nr at_ c1 bt
      go_wp2_with fail
      refine (unhide CS _ (unhide AR)).mono ?_
      rintro e w2 ⟨rfl, hb⟩
      replace CU := hide ((unhide CU).later hb)
      replace BT := hide ((unhide BT).trans (But.of_below hb))
      replace AR := hide ((unhide AR).later hb)
      clear hb CS
      cases hi : isV l
      · go_wp2_with fail
        go_roundw
        case rel => exact ⟨k + 1, by omega, by go_num, hide ((unhide CU).mono (by omega)), BT⟩
        case measure => simp [intOf]; omega
      · have hw := unhide CW hi
        rw [hw] at CT ⊢
        have TS1 := unhide TS hw
        clear CW TS hw hi
        go_wp2_with fail
        refine (one_v C (T + 300 * k + 200) 3 _ (unhide CU) (by omega) (by omega)).mono ?_
        rintro e w3 ⟨b, rfl, c3, bt⟩
        replace BT := hide ((unhide BT).trans bt)
        have AR3 := hide (ar_but8 (unhide AR) bt (unhide AT))
        clear AR bt c3 CU
        cases b
        · go_wp2_with fail
          go_ret
          exact ⟨a1, m1, c1', l, rfl, unhide AR3, by omega, unhide BT⟩
        · go_wp2_with fail
          refine (unhide CT _ (unhide AR3)).mono ?_
          rintro e w4 ⟨a2, n2, c2, rfl, hb, rt, h2⟩
          have RL := hide rt.len
          replace BT := hide ((unhide BT).trans (But.of_below hb))
          have AR4 := hide (rt_ar rt (by rw [← rt.len]; omega))
          clear rt hb CT
          go_wp2_with fail
          go_ret
          exact ⟨a2, n2, c2, tvV l, rfl, unhide AR4, by have := unhide RL; have := unhide LN; omega, unhide BT⟩
    · obtain rfl : k = 3 := by omega
      go_wp2_with fail
      refine (way_v C (T + 300 * 3) _ (unhide CU) (by omega)).mono ?_
      rintro e w1 ⟨a1, m1, c1', l, rfl, ar, nr, hm, at_, c1, bt⟩
      replace BT := hide ((unhide BT).trans bt)
      have AR := hide ar
      clear ar nr at_ c1 bt CU
      go_wp2_with fail
      go_ret
      exact ⟨a1, m1, c1', l, rfl, unhide AR, by omega, unhide BT⟩
set_option maxHeartbeats 4000000 in
theorem drawEO (a : Option Addr) (n c : Nat) (w : World) (h : ArY w a n) :
    Calls Tryz.prog 19 #[.slice a n c] w (OutS11 w) := by
  have e0 : w.heap.size = w.heap.size := by simp
  have CU : Hid (Cur (w.heap.size) 0 (w.alloc (.cells #[.slice a n c, .int .i64 0, .int .u64 0] 68))) := hide (e0 ▸ Cur.new (w := w) (h.later (Below.refl _ _)))
  have BW : Hid (Below w.heap.size w (w.alloc (.cells #[.slice a n c, .int .i64 0, .int .u64 0] 68))) := hide ((Below.refl _ _).alloc (Nat.le_refl _) _)
  have s0 : w.heap.size + 1 ≤ (w.alloc (.cells #[.slice a n c, .int .i64 0, .int .u64 0] 68)).heap.size := by simp
  clear h e0
  go_enter Tryz.func19, Tryz.ntmps19
  go_wp2_with fail
  refine (simple_v (w.heap.size) 0 _ (unhide CU) (by omega)).mono ?_
  rintro e w1 ⟨a1, m1, c1', l, rfl, ar, hm, bt⟩
  have BW2 := hide (bt.below (unhide BW) (by omega) (by omega))
  have AR := hide ar
  clear ar CU BW bt s0
  go_wp2_with fail
  go_ret
  exact ⟨a1, m1, c1', l, rfl, unhide AR, hm, unhide BW2⟩
end Go.Proofs.YtomekmhonfofkaaGreat

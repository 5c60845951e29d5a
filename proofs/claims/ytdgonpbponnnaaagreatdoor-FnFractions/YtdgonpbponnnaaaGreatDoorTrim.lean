/- Noughts at the end taken off: the program's trimLimbs, withSign and fitting, the specification's l1Cut, l1Make and l1Fits. No condition beyond those typed. -/
import Derived.Test.YtdgonpbponnnaaaGreatDoorEq
import Derived.Test.YtdgonpbponnnaaaGreatDoorNum
import Derived.Laws.AppendOwnNone
namespace Go.Proofs.YtdgonpbponnnaaaGreatDoor
open Go.RowKit
set_option linter.unusedVariables false
set_option maxRecDepth 100000
set_option linter.unusedSimpArgs false

/-- The slice at a is the call's own (its block is base or later), may be written, and its elements are zs. -/
def Own (base : Nat) (w : World) (a : Option Addr) (zs : List Int) : Prop :=
  zs = [] ∨ ∃ b cur, a = some ⟨b, 0, none⟩ ∧ base ≤ b ∧ w.heap[b]? = some (.cells cur 3 (0, 0)) ∧ ∀ i, i < zs.length → cur[i]? = some (.int .i64 (zs.getD i 0))

theorem Own.of_owns {w : World} {base g n c : Nat} {zs : List Int} (h : w.ownsRow base 3 1 (.slice (some ⟨g, 0, none⟩) n c) n (zs.map (Value.int .i64))) (hn : zs.length = n) : Own base w (some ⟨g, 0, none⟩) zs := by
  rcases h.2 with ⟨h', _⟩ | ⟨g', cap', cur, h', hb, hg, h1, h2, h3, htake⟩
  · simp at h'
  · simp only [Value.slice.injEq, Option.some.injEq, Addr.mk.injEq, and_true, true_and] at h'
    obtain ⟨rfl, rfl⟩ := h'
    refine .inr ⟨g, cur, rfl, hb, hg, fun i hi => ?_⟩
    have e : cur.toList[i]? = (cur.toList.take (n * 1))[i]? := by rw [List.getElem?_take, if_pos (by omega)]
    rw [htake] at e
    have e2 : cur[i]? = cur.toList[i]? := by simp
    rw [e2, e]
    simp [hi]
theorem Own.sl {base : Nat} {w : World} {a : Option Addr} {zs : List Int} (h : Own base w a zs) : Sl w a zs := by
  rcases h with h | ⟨b, cur, rfl, hb, hg, hc⟩
  · exact .inl h
  · refine .inr ⟨b, 0, rfl, (Array.getElem?_eq_some_iff.1 hg).1, fun i hi => ?_⟩
    rw [Nat.zero_add, cell_of_row w b i cur 3 (0, 0) hg]
    exact hc i hi
theorem Own.later {base : Nat} {w w' : World} {a : Option Addr} {zs : List Int} (h : Own base w a zs) (hb : Below w.heap.size w w') : Own base w' a zs := by
  rcases h with h | ⟨b, cur, rfl, h1, hg, hc⟩
  · exact .inl h
  · exact .inr ⟨b, cur, rfl, h1, by rw [hb.block b (Array.getElem?_eq_some_iff.1 hg).1]; exact hg, hc⟩
theorem Own.mono {base base' : Nat} {w : World} {a : Option Addr} {zs : List Int} (h : Own base w a zs) (hb : base' ≤ base) : Own base' w a zs := by
  rcases h with h | ⟨b, cur, rfl, h1, hg, hc⟩
  · exact .inl h
  · exact .inr ⟨b, cur, rfl, by omega, hg, hc⟩
theorem Own.take {base : Nat} {w : World} {a : Option Addr} {zs : List Int} (h : Own base w a zs) (k : Nat) : Own base w a (zs.take k) := by
  rcases h with h | ⟨b, cur, rfl, h1, hg, hc⟩
  · exact .inl (by rw [h]; simp)
  · refine .inr ⟨b, cur, rfl, h1, hg, fun i hi => ?_⟩
    rw [List.length_take] at hi
    have e : (zs.take k).getD i 0 = zs.getD i 0 := by simp only [List.getD_eq_getElem?_getD, List.getElem?_take]; rw [if_pos (by omega)]
    rw [e]; exact hc i (by omega)
theorem Own.nil (base : Nat) (w : World) (a : Option Addr) : Own base w a [] := .inl rfl
theorem Sl.take {w : World} {a : Option Addr} {zs : List Int} (h : Sl w a zs) (k : Nat) : Sl w a (zs.take k) := by
  rcases h with h | ⟨b, off, rfl, h1, hc⟩
  · exact .inl (by rw [h]; simp)
  · refine .inr ⟨b, off, rfl, h1, fun i hi => ?_⟩
    rw [List.length_take] at hi
    have e : (zs.take k).getD i 0 = zs.getD i 0 := by simp only [List.getD_eq_getElem?_getD, List.getElem?_take]; rw [if_pos (by omega)]
    rw [e]; exact hc i (by omega)
theorem Sl.nil (w : World) (a : Option Addr) : Sl w a [] := .inl rfl

/-- What may stand as a slice argument: its address leads to xs; where it has none it is nil. -/
structure Arg (w : World) (a : Option Addr) (n c : Nat) (xs : List Int) : Prop where
  sl : Sl w a xs
  len : xs.length = n
  cap : n ≤ c
  top : c ≤ maxLen
  addr : (a = none ∧ c = 0) ∨ ∃ b off, a = some ⟨b, off, none⟩
theorem Arg.later {w w' : World} {a : Option Addr} {n c : Nat} {xs : List Int} (h : Arg w a n c xs) (hb : Below w.heap.size w w') : Arg w' a n c xs :=
  ⟨h.sl.later (Nat.le_refl _) hb, h.len, h.cap, h.top, h.addr⟩
theorem Arg.none (w : World) : Arg w none 0 0 [] := ⟨.inl rfl, rfl, Nat.le_refl _, Nat.zero_le _, .inl ⟨rfl, rfl⟩⟩

theorem trim_nil_any (a : Option Addr) (c : Nat) (w : World) :
    Calls Tryz.prog 98 #[.slice a 0 c] w fun e w' => e = .returned (.slice none 0 0) ∧ w' = w := by
  have hd : decide ((0 : Int) < 0) = false := by simp
  go_enter Tryz.func98, Tryz.ntmps98
  go_wp2
  refine wp_loop_rounds 1 ?_
  rw [rounds_succ]
  go_wp2
  go_ret
  exact ⟨rfl, rfl⟩
set_option maxHeartbeats 1000000 in
theorem trim_cons (b off n c : Nat) (xs : List Int) (w : World) (hn : xs.length = n) (h0 : 0 < n) (hm : n ≤ maxLen) (hnc : n ≤ c) (hcm : c ≤ maxLen) (hb : b < w.heap.size)
    (hc : ∀ i, i < n → w.cell? ⟨b, off + i, none⟩ = some (.int .i64 (xs.getD i 0))) :
    Calls Tryz.prog 98 #[.slice (some ⟨b, off, none⟩) n c] w fun e w' => (∃ k, trim xs = xs.take k ∧ k = (trim xs).length ∧ e = .returned (if k = 0 then .slice none 0 0 else .slice (some ⟨b, off, none⟩) k k)) ∧ w' = w := by
  unfold maxLen at hm hcm
  have HN := hide hn
  have HC := hide hc
  clear hn hc
  go_enter Tryz.func98, Tryz.ntmps98
  go_wp2
  go_loop [3] (fun i => ∃ k : Nat, k ≤ n ∧ i = .int .i64 k ∧ Hid (trim xs = trim (xs.take k))) (fun i => (intOf i).toNat)
  case atStart => exact ⟨n, Nat.le_refl _, rfl, hide (by rw [List.take_of_length_le (by rw [unhide HN]; exact Nat.le_refl _)])⟩
  case round =>
    obtain ⟨k, hk, rfl, HK⟩ := hrel
    cases k with
    | zero =>
      have hd : decide ((0 : Int) < 0) = false := by simp
      go_wp2
      go_ret
      refine ⟨⟨0, ?_, ?_, rfl⟩, rfl⟩
      · rw [unhide HK]; rfl
      · rw [unhide HK]; rfl
    | succ j =>
      have hcx := unhide HC j (by omega)
      have hts := hide (take_succ' (xs := xs) (k := j) (by rw [unhide HN]; omega))
      generalize xs.getD j 0 = x at hcx hts
      have hd : decide ((0 : Int) < (j : Int) + 1) = true := by rw [decide_eq_true_eq]; omega
      have i1 : (0 : Int) ≤ (j : Int) + 1 - 1 := by omega
      have i2 : (j : Int) + 1 - 1 < (n : Int) := by omega
      by_cases hx : x = 0
      · subst hx
        go_wp2
        go_round
        case rel =>
          refine ⟨j, by omega, by go_num, hide ?_⟩
          rw [unhide HK, unhide hts, trim_snoc_zero]
        case measure => simp [intOf]
      · have hx' : (x == 0) = false := by simp [hx]
        have hz : ((j : Int) + 1 == 0) = false := by simp; omega
        go_wp2
        go_ret
        refine ⟨⟨j + 1, ?_, ?_, by rw [if_neg (by omega)]; rfl⟩, rfl⟩
        · rw [unhide HK, unhide hts, trim_snoc_ne _ hx]
        · rw [unhide HK, unhide hts, trim_snoc_ne _ hx]; simp; rw [unhide HN]; omega

theorem trim_any (a : Option Addr) (n c : Nat) (xs : List Int) (w : World) (hx : Arg w a n c xs) :
    Calls Tryz.prog 98 #[.slice a n c] w fun e w' => ∃ a' n' c', e = .returned (.slice a' n' c') ∧ w' = w ∧ (∀ wx, Arg wx a n c xs → Arg wx a' n' c' (trim xs)) ∧ (∀ base wx, Own base wx a xs → Own base wx a' (trim xs)) := by
  obtain ⟨hs, hn, hnc, hcm, had⟩ := hx
  by_cases h0 : n = 0
  · subst h0
    obtain rfl : xs = [] := List.length_eq_zero_iff.1 hn
    refine (trim_nil_any a c w).mono ?_
    rintro e w' ⟨rfl, rfl⟩
    exact ⟨none, 0, 0, rfl, rfl, fun _ _ => Arg.none _, fun _ _ _ => .inl rfl⟩
  · rcases hs with rfl | ⟨b, off, rfl, hb, hc⟩
    · simp at hn; omega
    · refine (trim_cons b off n c xs w hn (by omega) (by omega) hnc hcm hb (by rw [← hn]; exact hc)).mono ?_
      rintro e w' ⟨⟨k, h1, h2, rfl⟩, rfl⟩
      have hl := trim_len xs
      by_cases hk : k = 0
      · have e : trim xs = [] := List.length_eq_zero_iff.1 (by omega)
        rw [if_pos hk, e]
        exact ⟨none, 0, 0, rfl, rfl, fun _ _ => Arg.none _, fun _ _ _ => .inl rfl⟩
      · rw [if_neg hk]
        refine ⟨_, _, _, rfl, rfl, fun wx hwx => ⟨?_, h2.symm, Nat.le_refl _, by omega, .inr ⟨_, _, rfl⟩⟩, fun base wx ho => ?_⟩
        · rw [h1]; exact hwx.sl.take k
        · rw [h1]; exact ho.take k

theorem owns_shape {w : World} {base n : Nat} {v : Value} {zs : List Int} (h : w.ownsRow base 3 1 v n (zs.map (Value.int .i64))) (hn : zs.length = n) : ∃ a c, v = .slice a n c ∧ Own base w a zs ∧ Arg w a n c zs := by
  have h0 := h
  rcases h.2 with ⟨rfl, h'⟩ | ⟨g', cap', cur, rfl, hb, hg, h1, h2, h3, htake⟩
  · subst h'
    obtain rfl := List.length_eq_zero_iff.1 hn
    exact ⟨none, 0, rfl, .inl rfl, Arg.none _⟩
  · exact ⟨_, _, rfl, Own.of_owns h0 hn, ⟨(Own.of_owns h0 hn).sl, hn, h1, h2, .inr ⟨_, _, rfl⟩⟩⟩
theorem owns_empty (w : World) : (w.alloc (.cells #[] 3)).ownsRow w.heap.size 3 1 (.slice (some ⟨w.heap.size, 0, none⟩) 0 0) 0 [] := by
  refine ⟨rfl, .inr ⟨w.heap.size, 0, #[], rfl, Nat.le_refl _, ?_, Nat.le_refl _, Nat.zero_le _, rfl, rfl⟩⟩
  show (w.heap.push _)[w.heap.size]? = _
  simp
def lenOf : Value → Nat | .slice _ k _ => k | _ => 0
theorem cells_at {w : World} {b off k : Nat} {xs : List Int} (hc : ∀ i, i < k → w.cell? ⟨b, off + i, none⟩ = some (.int .i64 (xs.getD i 0))) (hk : k ≤ xs.length) :
    ∀ j u, ((xs.take k).map (Value.int .i64))[j]? = some u → w.cell? ((⟨b, off, none⟩ : Addr).add j) = some u := by
  intro j u hj
  simp only [List.getElem?_map, List.getElem?_take] at hj
  by_cases h : j < k
  · rw [if_pos h, List.getElem?_eq_getElem (by omega)] at hj
    simp only [Option.map_some, Option.some.injEq] at hj
    have := hc j h
    simp only [List.getD_eq_getElem?_getD, List.getElem?_eq_getElem (show j < xs.length by omega), Option.getD_some] at this
    rw [← hj]
    by_cases h0 : j = 0
    · subst h0; simpa [Addr.add] using this
    · simpa [Addr.add, h0] using this
  · rw [if_neg h] at hj; simp at hj
theorem one_cells (zs : List Int) : ∀ u ∈ zs.map (Value.int .i64), u.oneCell' = true := by
  intro u hu
  obtain ⟨x, _, rfl⟩ := List.mem_map.1 hu
  rfl
theorem below_alloc_grown {w w1 : World} {o : Obj} {r : Option Nat} (hg : (w.alloc o).grownBy w1 r) (hr : ∀ k, r = some k → w.heap.size ≤ k) : Below w.heap.size w w1 :=
  ((Below.refl _ _).alloc (Nat.le_refl _) o).grown hg (by simp) hr

set_option maxHeartbeats 1000000 in
theorem cut_cons (b off n c : Nat) (xs : List Int) (w : World) (hn : xs.length = n) (h1 : n ≤ 1048576) (hnc : n ≤ c) (hcm : c ≤ maxLen) (hb : 0 < n → b < w.heap.size)
    (hc : ∀ i, i < n → w.cell? ⟨b, off + i, none⟩ = some (.int .i64 (xs.getD i 0))) :
    Calls Tryz.prog 80 #[.slice (some ⟨b, off, none⟩) n c] w fun e w' => ∃ a' n' c', e = .returned (.slice a' n' c') ∧ Below w.heap.size w w' ∧ Own w.heap.size w' a' (trim xs) ∧ Arg w' a' n' c' (trim xs) := by
  obtain ⟨i0, hi, hz0, hz1, hz2⟩ := info_parts Tryz.info3
  unfold maxLen at hcm
  have HN := hide hn
  have HC := hide hc
  clear hn hc
  go_enter Tryz.func80, Tryz.ntmps80
  go_wp2
  go_loop [0] (fun v => ∃ k : Nat, k ≤ n ∧ v = .slice (some ⟨b, off, none⟩) k c ∧ Hid (trim xs = trim (xs.take k))) (fun v => lenOf v)
  case atStart => exact ⟨n, Nat.le_refl _, rfl, hide (by rw [List.take_of_length_le (by rw [unhide HN]; exact Nat.le_refl _)])⟩
  case round =>
    obtain ⟨k, hk, rfl, HK⟩ := hrel
    cases k with
    | zero =>
      have hd : decide ((0 : Int) < 0) = false := by simp
      go_wp2_with (at_builtin; refine wpList_append_own _ rfl (.tmp 20) (.tmp 21) 23 rfl w.heap.size 3 i0 (.int .i64 0) 1 8 Tryz.underlying23 hi hz0 hz1 hz2 rfl (by decide) _ _ _ rfl (owns_empty w) ⟨b, off, none⟩ 0 c [] rfl rfl (fun j u h => by simp at h) (fun u h => by cases h) (by unfold maxLen; omega) (by omega) (by simp) ?_)
      intro v' w1 hown hg _
      obtain ⟨a', c', rfl, q2, q3⟩ := owns_shape (zs := []) hown rfl
      have hB := hide (below_alloc_grown hg (fun k e => by simp [Value.ownBlock] at e; omega))
      clear hown hg
      go_wp2
      go_ret
      have e : trim xs = [] := by rw [unhide HK]; rfl
      rw [e]
      exact ⟨a', _, c', rfl, unhide hB, q2, q3⟩
    | succ j =>
      have hcx := unhide HC j (by omega)
      have hts := hide (take_succ' (xs := xs) (k := j) (by rw [unhide HN]; omega))
      generalize xs.getD j 0 = x at hcx hts
      have hd : decide ((0 : Int) < (j : Int) + 1) = true := by rw [decide_eq_true_eq]; omega
      have i1 : (0 : Int) ≤ (j : Int) + 1 - 1 := by omega
      have i2 : (j : Int) + 1 - 1 < (n : Int) := by omega
      by_cases hx : x = 0
      · subst hx
        go_wp2
        go_round
        case rel => exact ⟨j, by omega, rfl, hide (by rw [unhide HK, unhide hts, trim_snoc_zero])⟩
        case measure => simp [lenOf]
      · have hx' : (x == 0) = false := by simp [hx]
        have hz : ((j : Int) + 1 == 0) = false := by simp; omega
        obtain ⟨ts, TS⟩ : ∃ ts, Hid (xs.take (j + 1) = ts) := ⟨_, hide rfl⟩
        have hcells : Hid (∀ q u, (ts.map (Value.int .i64))[q]? = some u → (w.alloc (.cells #[] 3)).cell? ((⟨b, off, none⟩ : Addr).add q) = some u) := by
          rw [← unhide TS]
          exact hide (cells_at (k := j + 1) (xs := xs) (fun i hi => by
            rw [← unhide HC i (by omega)]; exact ((Below.refl _ _).alloc (Nat.le_refl _) _).cell (by exact hb (by omega))) (by rw [unhide HN]; omega))
        have HL : Hid (ts.length = j + 1) := hide (by rw [← unhide TS]; simp; rw [unhide HN]; omega)
        have hlen := hide (show (ts.map (Value.int .i64)).length = (j + 1) * 1 by simp; rw [unhide HL])
        go_wp2_with (at_builtin; refine wpList_append_own _ rfl (.tmp 20) (.tmp 21) 23 rfl w.heap.size 3 i0 (.int .i64 0) 1 8 Tryz.underlying23 hi hz0 hz1 hz2 rfl (by decide) _ _ _ rfl (owns_empty w) ⟨b, off, none⟩ (j + 1) c (ts.map (Value.int .i64)) rfl (unhide hlen) (unhide hcells) (one_cells _) (by unfold maxLen; omega) (by omega) (by simp) ?_)
        intro v' w1 hown hg _
        have HE : Hid (trim xs = ts) := hide (by rw [unhide HK, unhide hts, trim_snoc_ne _ hx, ← unhide hts, unhide TS])
        obtain ⟨a', c', rfl, q2, q3⟩ := owns_shape (zs := ts) hown (unhide HL)
        have hB := hide (below_alloc_grown hg (fun k e => by simp [Value.ownBlock] at e; omega))
        clear hown hg
        go_wp2
        go_ret
        rw [unhide HE]
        exact ⟨a', _, c', rfl, unhide hB, q2, q3⟩

set_option maxHeartbeats 1000000 in
theorem cut_none (w : World) :
    Calls Tryz.prog 80 #[.slice none 0 0] w fun e w' => e = .returned (.slice (some ⟨w.heap.size, 0, none⟩) 0 0) ∧ Below w.heap.size w w' := by
  obtain ⟨i0, hi, hz0, hz1, hz2⟩ := info_parts Tryz.info3
  have hd : decide ((0 : Int) < 0) = false := by simp
  go_enter Tryz.func80, Tryz.ntmps80
  go_wp2
  refine wp_loop_rounds 1 ?_
  rw [rounds_succ]
  go_wp2_with (at_builtin; refine wpList_append_own_none rfl (.tmp 20) (.tmp 21) 23 rfl w.heap.size 3 i0 1 Tryz.underlying23 hi _ _ _ rfl (owns_empty w) rfl ?_)
  go_wp2
  go_ret
  exact ⟨rfl, (Below.refl _ _).alloc (Nat.le_refl _) _⟩

theorem cut_any (a : Option Addr) (n c : Nat) (xs : List Int) (w : World) (hx : Arg w a n c xs) (h1 : n ≤ 1048576) :
    Calls Tryz.prog 80 #[.slice a n c] w fun e w' => ∃ a' n' c', e = .returned (.slice a' n' c') ∧ Below w.heap.size w w' ∧ Own w.heap.size w' a' (trim xs) ∧ Arg w' a' n' c' (trim xs) := by
  obtain ⟨hs, hn, hnc, hcm, had⟩ := hx
  rcases had with ⟨rfl, rfl⟩ | ⟨b, off, rfl⟩
  · obtain rfl : n = 0 := by omega
    obtain rfl := List.length_eq_zero_iff.1 hn
    refine (cut_none w).mono ?_
    rintro e w' ⟨rfl, hb⟩
    exact ⟨_, _, _, rfl, hb, .inl rfl, ⟨.inl rfl, rfl, Nat.le_refl _, Nat.zero_le _, .inr ⟨_, _, rfl⟩⟩⟩
  · rcases hs with rfl | ⟨b', off', e, hb, hc⟩
    · simp only [List.length_nil] at hn
      subst hn
      exact cut_cons b off 0 c [] w rfl h1 hnc hcm (fun h => absurd h (Nat.lt_irrefl _)) (fun i hi => absurd hi (Nat.not_lt_zero _))
    · simp only [Option.some.injEq, Addr.mk.injEq, and_true] at e
      obtain ⟨rfl, rfl⟩ := e
      exact cut_cons b off n c xs w hn h1 hnc hcm (fun _ => hb) (by rw [← hn]; exact hc)

def sgn (g : Bool) (zs : List Int) : Bool := g && decide (0 < zs.length)
theorem sgn_false (zs : List Int) : sgn false zs = false := rfl
theorem sgn_nil (g : Bool) : sgn g [] = false := by cases g <;> rfl
theorem sgn_cons {g : Bool} {zs : List Int} (h : 0 < zs.length) : sgn g zs = g := by cases g <;> simp [sgn, h]

set_option maxHeartbeats 1000000 in
theorem sign_any (g : Bool) (a : Option Addr) (n c : Nat) (xs : List Int) (w : World) (hx : Arg w a n c xs) :
    Calls Tryz.prog 83 #[.bool g, .slice a n c] w fun e w' => ∃ a' n' c', e = .returned (.agg #[.bool (sgn g (trim xs)), .slice a' n' c']) ∧ Below w.heap.size w w' ∧ Arg w' a' n' c' (trim xs) ∧ (∀ base, Own base w a xs → Own base w' a' (trim xs)) := by
  have HX := hide hx
  clear hx
  go_enter Tryz.func83, Tryz.ntmps83
  go_wp2_with fail
  have HB := hide (show ∀ o, Below w.heap.size w (w.alloc o) from fun o => (Below.refl _ _).alloc (Nat.le_refl _) _)
  refine (trim_any a n c xs _ ((unhide HX).later (unhide HB _))).mono ?_
  rintro e w1 ⟨a', k, c', rfl, rfl, harg, hown⟩
  have hk := hide (harg _ ((unhide HX).later (unhide HB (.cells #[] 0)))).len
  have fin : Hid (∀ o, Below w.heap.size w (w.alloc o) ∧ Arg (w.alloc o) a' k c' (trim xs) ∧ ∀ base, Own base w a xs → Own base (w.alloc o) a' (trim xs)) :=
    hide (fun o => ⟨unhide HB o, harg _ ((unhide HX).later (unhide HB o)), fun base ho => hown base _ (ho.later (unhide HB o))⟩)
  clear harg hown
  cases g
  · go_wp2
    refine bodyPost_ret (v := .agg #[.bool false, .slice a' k c']) (by simp [results, Tryz.results83, go_sem]) rfl ⟨a', k, c', rfl, ?_⟩
    exact unhide fin _
  · by_cases h0 : k = 0
    · subst h0
      go_wp2
      refine bodyPost_ret (v := .agg #[.bool false, .slice a' 0 c']) (by simp [results, Tryz.results83, go_sem]) rfl ⟨a', 0, c', ?_, ?_⟩
      · rw [List.length_eq_zero_iff.1 (unhide hk), sgn_nil]
      · exact unhide fin _
    · have hp : 0 < k := by omega
      go_wp2
      refine bodyPost_ret (v := .agg #[.bool true, .slice a' k c']) (by simp [results, Tryz.results83, go_sem, hp]) rfl ⟨a', k, c', ?_, ?_⟩
      · rw [sgn_cons (by rw [unhide hk]; exact hp)]
      · exact unhide fin _

set_option maxHeartbeats 1000000 in
theorem make_any (g : Bool) (a : Option Addr) (n c : Nat) (xs : List Int) (w : World) (hx : Arg w a n c xs) (h1 : n ≤ 1048576) :
    Calls Tryz.prog 67 #[.bool g, .slice a n c] w fun e w' => ∃ a' n' c', e = .returned (.agg #[.bool (sgn g (trim xs)), .slice a' n' c']) ∧ Below w.heap.size w w' ∧ Own w.heap.size w' a' (trim xs) ∧ Arg w' a' n' c' (trim xs) := by
  have HX := hide hx
  clear hx
  go_enter Tryz.func67, Tryz.ntmps67
  go_wp2_with fail
  have HB := hide (show ∀ o, Below w.heap.size w (w.alloc o) from fun o => (Below.refl _ _).alloc (Nat.le_refl _) _)
  refine (cut_any a n c xs _ ((unhide HX).later (unhide HB _)) h1).mono ?_
  rintro e w1 ⟨a', k, c', rfl, hb, hown, harg⟩
  have z0 : w1.cell? ⟨w.heap.size, 0, none⟩ = some (.bool false) := cell_later hb (by simp [go_sem])
  have z1 : w1.cell? ⟨w.heap.size, 1, none⟩ = some (.slice none 0 0) := cell_later hb (by simp [go_sem])
  have f0 : ∀ o, w1.frozen? ⟨w.heap.size, o, none⟩ = false := fun o => by rw [(bcell hb).2 _ _ (by simp)]; simp [go_sem]
  have hlt : w.heap.size < w1.heap.size := by have := hb.size; simp at this; omega
  have hk := hide harg.len
  have fin : Hid (∀ v v', Below w.heap.size w ((w1.setCell ⟨w.heap.size, 0, none⟩ v).setCell ⟨w.heap.size, 1, none⟩ v') ∧ Own w.heap.size ((w1.setCell ⟨w.heap.size, 0, none⟩ v).setCell ⟨w.heap.size, 1, none⟩ v') a' (trim xs) ∧ Arg ((w1.setCell ⟨w.heap.size, 0, none⟩ v).setCell ⟨w.heap.size, 1, none⟩ v') a' k c' (trim xs)) := by
    refine hide fun v v' => ?_
    have hB : Below w.heap.size w w1 := ((Below.refl _ _).alloc (Nat.le_refl _) _).trans (hb.mono (by simp))
    have ho : Own w.heap.size ((w1.setCell ⟨w.heap.size, 0, none⟩ v).setCell ⟨w.heap.size, 1, none⟩ v') a' (trim xs) := by
      rcases hown with h | ⟨b, cur, rfl, h1, hg, hc⟩
      · exact .inl h
      · refine .inr ⟨b, cur, rfl, by simp at h1; omega, ?_, hc⟩
        rw [Below.heap_setCell _ _ _ _ (by simp at h1 ⊢; omega), Below.heap_setCell _ _ _ _ (by simp at h1 ⊢; omega)]
        exact hg
    exact ⟨(hB.setCell (Nat.le_refl _) _).setCell (Nat.le_refl _) _, ho, ⟨ho.sl, harg.len, harg.cap, harg.top, harg.addr⟩⟩
  clear hb hown harg
  cases g
  · go_wp2
    refine bodyPost_ret (v := .agg #[.bool false, .slice a' k c']) (by simp [results, Tryz.results67, go_sem, z0, z1, hlt]) rfl ⟨a', k, c', rfl, ?_⟩
    exact unhide fin _ _
  · by_cases h0 : k = 0
    · subst h0
      go_wp2
      refine bodyPost_ret (v := .agg #[.bool false, .slice a' 0 c']) (by simp [results, Tryz.results67, go_sem, z0, z1, hlt]) rfl ⟨a', 0, c', ?_, ?_⟩
      · rw [List.length_eq_zero_iff.1 (unhide hk), sgn_nil]
      · exact unhide fin _ _
    · have hp : 0 < k := by omega
      go_wp2
      refine bodyPost_ret (v := .agg #[.bool true, .slice a' k c']) (by simp [results, Tryz.results67, go_sem, z0, z1, hlt, hp]) rfl ⟨a', k, c', ?_, ?_⟩
      · rw [sgn_cons (by rw [unhide hk]; exact hp)]
      · exact unhide fin _ _
end Go.Proofs.YtdgonpbponnnaaaGreatDoor

/- Arguments that are points, or slices of points, as they came in. No condition. -/
import Derived.Test.YthmpikagenodjaaTo
import Derived.Test.YthmpikagenodjaaMark
import Derived.Deep.RegionHeld3
import Derived.Deep.AppendLies
import Derived.Test.YthmpikagenodjaaLaw2
import Derived.BigQuiet
import Derived.Test.YthmpikagenodjaaOpen
import Derived.Deep.Slices
namespace Go.Proofs.Ythmpikagenodjaa
open Go.RowKit
set_option linter.unusedVariables false
set_option maxRecDepth 100000
set_option linter.unusedSimpArgs false

theorem toP (x y : Int) (w : World) :
    Calls Try.prog 35 #[.agg #[.int .i64 x, .int .i64 y]] w fun e w' => e = .returned (.agg #[.int .i64 x, .int .i64 y]) ∧ Below w.heap.size w w' := by
  go_enter Try.func35, Try.ntmps35
  go_wp2
  refine bodyPost_ret (v := .agg #[.int .i64 x, .int .i64 y]) (by simp [results, Try.results35, go_sem]) rfl ⟨rfl, ?_⟩
  exact (((Below.refl _ _).alloc (Nat.le_refl _) _).alloc (by simp) _).alloc (by simp; omega) _
/-- A slice that reads as these points. -/
def SlP (w : World) (a : Option Addr) (l : List (Int × Int)) : Prop := l = [] ∨ ∃ b off, a = some ⟨b, off, none⟩ ∧ b < w.heap.size ∧ ∀ i (h : i < l.length), w.cell? ⟨b, off + i * 2, none⟩ = some (.int .i64 l[i].1) ∧ w.cell? ⟨b, off + i * 2 + 1, none⟩ = some (.int .i64 l[i].2)
theorem SlP.later {w w' : World} {a : Option Addr} {l : List (Int × Int)} (h : SlP w a l) (hb : Below w.heap.size w w') : SlP w' a l := by
  rcases h with h | ⟨b, off, rfl, h1, h2⟩
  · exact .inl h
  · exact .inr ⟨b, off, rfl, Nat.lt_of_lt_of_le h1 hb.size, fun i hi => ⟨cell_later hb ((h2 i hi).1), cell_later hb ((h2 i hi).2)⟩⟩
/-- .. as an argument. -/
structure ArP (w : World) (a : Option Addr) (n c : Nat) (l : List (Int × Int)) : Prop where
  sl : SlP w a l
  len : l.length = n
  cap : n ≤ c
  top : c ≤ maxLen
theorem ArP.later {w w' : World} {a : Option Addr} {n c : Nat} {l : List (Int × Int)} (h : ArP w a n c l) (hb : Below w.heap.size w w') : ArP w' a n c l := ⟨h.sl.later hb, h.len, h.cap, h.top⟩
theorem szPs (a : Option Addr) (n c : Nat) (left : Int) (w : World) (hm : n ≤ maxLen) (h0 : 0 ≤ left) (h1 : left ≤ 1048576) :
    Calls Try.prog 15 #[.slice a n c, .int .i64 left] w fun e w' => Below w.heap.size w w' ∧ ((e = .returned (.int .i64 (-1)) ∧ left < n) ∨ (e = .returned (.int .i64 (left - n)) ∧ (n : Int) ≤ left)) := by
  unfold maxLen at hm
  have iw : IntKind.i64.wrap (left - (n : Int)) = left - (n : Int) := by rw [IntKind.wrap_i64]; omega
  by_cases c0 : left - (n : Int) < 0
  · have d0 : decide (left - (n : Int) < 0) = true := decide_eq_true c0
    go_enter Try.func15, Try.ntmps15
    go_wp2
    go_ret
    exact ⟨Below.refl _ _, .inl ⟨rfl, by omega⟩⟩
  · have d0 : decide (left - (n : Int) < 0) = false := decide_eq_false c0
    go_enter Try.func15, Try.ntmps15
    go_wp2
    go_ret
    exact ⟨Below.refl _ _, .inr ⟨rfl, by omega⟩⟩
theorem eqP (x y : Int) (w : World) :
    Calls Try.prog 39 #[.agg #[.int .i64 x, .int .i64 y], .agg #[.int .i64 x, .int .i64 y]] w fun e w' => e = .returned (.bool true) ∧ Below w.heap.size w w' := by
  go_enter Try.func39, Try.ntmps39
  go_wp2
  go_ret
  exact ⟨rfl, ((Below.refl _ _).alloc (Nat.le_refl _) _).alloc (by simp) _⟩
theorem cdP {w : World} {b o : Nat} {v : Value} (h : w.cell? ⟨b, o, none⟩ = some v) : w.drew.cell? ⟨b, o, none⟩ = some v := h
theorem take_succP {l : List (Int × Int)} {i : Nat} (h : i < l.length) : l.take (i + 1) = l.take i ++ [l[i]] := (List.take_append_getElem h).symm
set_option maxHeartbeats 4000000 in
theorem eqPs (a a' : Option Addr) (n c c' : Nat) (l : List (Int × Int)) (w : World) (h : SlP w a l) (h' : SlP w a' l) (hn : l.length = n) (hm : n ≤ maxLen) :
    Calls Try.prog 19 #[.slice a n c, .slice a' n c'] w fun e w' => e = .returned (.bool true) ∧ Below w.heap.size w w' := by
  have HS := hide h
  have HS' := hide h'
  have HN := hide hn
  clear h hn h'
  unfold maxLen at hm
  go_enter Try.func19, Try.ntmps19
  go_wp2
  go_loopw [5] (fun iv wr => ∃ (i : Nat), i ≤ n ∧ iv = .int .i64 i ∧ Hid (Below w.heap.size w wr)) (fun iv _ => n - (intOf iv).toNat)
  case atStart => exact ⟨0, Nat.zero_le _, rfl, hide (Below.refl _ _)⟩
  case round =>
    obtain ⟨i, hi, rfl, HB⟩ := hrel
    by_cases hlt : i < n
    · have hlt' : (i : Int) < (n : Int) := by omega
      rcases (unhide HS) with e | ⟨b, off, rfl, hb, hc⟩
      · exact absurd (unhide HN) (by rw [e]; simp; omega)
      have e0 := hc i (by rw [unhide HN]; exact hlt)
      rcases (unhide HS') with e | ⟨b', off', rfl, hb', hc'⟩
      · exact absurd (unhide HN) (by rw [e]; simp; omega)
      have f0 := hc' i (by rw [unhide HN]; exact hlt)
      obtain ⟨y, hy⟩ : ∃ y, y = l[i]'(by rw [unhide HN]; exact hlt) := ⟨_, rfl⟩
      rw [← hy] at e0 f0
      clear hy hc hc'
      have E0 : wr.cell? ⟨b, off + i * 2, none⟩ = some (.int .i64 y.1) := ((unhide HB).cell (p := ⟨b, off + i * 2, none⟩) hb).trans (e0.1)
      have E1 : wr.cell? ⟨b, off + i * 2 + 1, none⟩ = some (.int .i64 y.2) := ((unhide HB).cell (p := ⟨b, off + i * 2 + 1, none⟩) hb).trans (e0.2)
      have F0 : wr.cell? ⟨b', off' + i * 2, none⟩ = some (.int .i64 y.1) := ((unhide HB).cell (p := ⟨b', off' + i * 2, none⟩) hb').trans (f0.1)
      have F1 : wr.cell? ⟨b', off' + i * 2 + 1, none⟩ = some (.int .i64 y.2) := ((unhide HB).cell (p := ⟨b', off' + i * 2 + 1, none⟩) hb').trans (f0.2)
      clear e0 f0
      go_upto_region 6 with fail
      go_region_held3 (fun w' => w'.cell? ⟨b, off + i * 2, none⟩ = some (.int .i64 y.1) ∧ w'.cell? ⟨b, off + i * 2 + 1, none⟩ = some (.int .i64 y.2) ∧ w'.cell? ⟨b', off' + i * 2, none⟩ = some (.int .i64 y.1) ∧ w'.cell? ⟨b', off' + i * 2 + 1, none⟩ = some (.int .i64 y.2))
        (with_reducible (first | exact ⟨E0, E1, F0, F1⟩ | exact ⟨cdP E0, cdP E1, cdP F0, cdP F1⟩ | fail))
        (first
        | (go_at_call 39; refine (eqP y.1 y.2 _).mono ?_; rintro e w1 ⟨rfl, hb1⟩; have HB1 := hide (below_on (unhide HB) (below_of_drew hb1)); have hbx := below_of_drew hb1; replace E0 := cell_later hbx E0; replace E1 := cell_later hbx E1; replace F0 := cell_later hbx F0; replace F1 := cell_later hbx F1; clear hb1 hbx)
        | fail)
      clear E0 F0 E1 F1
      go_wp2
      go_roundw
      case rel => exact ⟨i + 1, by omega, by go_num, HB1⟩
      case measure => simp [intOf]; omega
    · obtain rfl : i = n := by omega
      go_wp2
      go_ret
      exact ⟨rfl, unhide HB⟩
/-- Points in a row of one's own, at block G. -/
structure OwP (w : World) (G n c : Nat) (l : List (Int × Int)) : Prop where
  row : ∃ M, w.ownsRow G 62 2 (.slice (some ⟨G, 0, none⟩) n c) n M ∧ ∀ i (h : i < l.length), M[i * 2]? = some (.int .i64 l[i].1) ∧ M[i * 2 + 1]? = some (.int .i64 l[i].2)
  len : l.length = n
theorem ownsRow_laterP {w w' : World} {G g n c size : Nat} {e : TypeId} {M : List Value} (h : w.ownsRow G e size (.slice (some ⟨g, 0, none⟩) n c) n M) (hb : Below w.heap.size w w') : w'.ownsRow G e size (.slice (some ⟨g, 0, none⟩) n c) n M := by
  refine ⟨h.1, ?_⟩
  rcases h.2 with ⟨h', _⟩ | ⟨g', cap, cur, hv, h1, hg, r⟩
  · simp at h'
  · refine .inr ⟨g', cap, cur, hv, h1, ?_, r⟩
    rw [hb.block g' (Array.getElem?_eq_some_iff.1 hg).1]
    exact hg
theorem OwP.later {w w' : World} {G n c : Nat} {l : List (Int × Int)} (h : OwP w G n c l) (hb : Below w.heap.size w w') : OwP w' G n c l := by
  obtain ⟨M, hr, hM⟩ := h.row
  exact ⟨⟨M, ownsRow_laterP hr hb, hM⟩, h.len⟩
theorem OwP.arg {w : World} {G n c : Nat} {l : List (Int × Int)} (h : OwP w G n c l) : ArP w (some ⟨G, 0, none⟩) n c l := by
  obtain ⟨M, hr, hM⟩ := h.row
  have hl := h.len
  rcases hr.2 with ⟨h', _⟩ | ⟨g', cap, cur, hv, h1, hg, r1, r2, r3⟩
  · simp at h'
  simp only [Value.slice.injEq, Option.some.injEq, Addr.mk.injEq, and_true, true_and] at hv
  obtain ⟨rfl, rfl⟩ := hv
  refine ⟨.inr ⟨G, 0, rfl, (Array.getElem?_eq_some_iff.1 hg).1, fun i hi => ?_⟩, hl, r1, r2⟩
  have hc := hM i hi
  refine ⟨?_, ?_⟩ <;> rw [Nat.zero_add, hr.cellAt _ (by omega)]
  · exact hc.1
  · exact hc.2
theorem but_rowP {w : World} {G k : Nat} {x y : Value} : But G (G + 1) w ((w.setCell ⟨G, k * 2, none⟩ x).setCell ⟨G, k * 2 + 1, none⟩ y) := (((But.refl _ _ _).set (p := ⟨G, k * 2, none⟩) (Nat.le_refl G) (Nat.lt_succ_self G) x).set (p := ⟨G, k * 2 + 1, none⟩) (Nat.le_refl G) (Nat.lt_succ_self G) y)
theorem infoPt : (Try.prog.info? 62).map (fun i => (i.zero, i.size, i.bytes)) = some (some (.agg #[.int .i64 0, .int .i64 0]), 2, 16) := by kernel_rfl
theorem set_rowP {M : List Value} {us : List (Int × Int)} {n k : Nat} {x y : Int} (hM : M.length = n * 2) (hk : k < n) (hu : us.length = k) (h : ∀ i (h : i < us.length), M[i * 2]? = some (.int .i64 us[i].1) ∧ M[i * 2 + 1]? = some (.int .i64 us[i].2)) :
    ∀ i (h : i < (us ++ [(x, y)]).length), ((M.set (k * 2) (.int .i64 x)).set (k * 2 + 1) (.int .i64 y))[i * 2]? = some (.int .i64 (us ++ [(x, y)])[i].1) ∧ ((M.set (k * 2) (.int .i64 x)).set (k * 2 + 1) (.int .i64 y))[i * 2 + 1]? = some (.int .i64 (us ++ [(x, y)])[i].2) := by
  intro i hi
  by_cases e : i < k
  · have hi' : i < us.length := by omega
    have h1 := h i hi'
    rw [List.getElem_append_left hi']
    simp only [List.getElem?_set]
    refine ⟨?_, ?_⟩
    · rw [if_neg (by omega), if_neg (by omega)]; exact h1.1
    · rw [if_neg (by omega), if_neg (by omega)]; exact h1.2
  · obtain rfl : i = k := by simp at hi; omega
    subst hu
    rw [List.getElem_append_right (Nat.le_refl _)]
    simp only [Nat.sub_self, List.getElem_cons_zero]
    refine ⟨?_, ?_⟩
    · simp only [List.getElem?_set, List.length_set]; rw [if_neg (by omega)]; rw [if_pos trivial, if_pos (by omega)]
    · simp only [List.getElem?_set, List.length_set]; rw [if_pos trivial, if_pos (by omega)]
set_option maxHeartbeats 4000000 in
theorem toPs (a : Option Addr) (n c : Nat) (l : List (Int × Int)) (w : World) (h : SlP w a l) (hn : l.length = n) (h1 : n ≤ 1048576) :
    Calls Try.prog 17 #[.slice a n c] w fun e w' => e = .returned (.slice (some ⟨w.heap.size, 0, none⟩) n n) ∧ Below w.heap.size w w' ∧ OwP w' w.heap.size n n l := by
  obtain ⟨i0, hi, hz0, hz1, hz2⟩ := info_parts infoPt
  have HS := hide h
  have HN := hide hn
  clear h hn
  go_enter Try.func17, Try.ntmps17
  go_wp2_with (at_make; refine wpList_make_full _ rfl _ _ 35 rfl w.heap.size 62 i0 (.agg #[.int .i64 0, .int .i64 0]) 2 Try.underlying35 hi hz0 hz1 .i64 .i64 _ _ n rfl rfl rfl rfl ?c1 ?c2 ?c3 ?_)
  case c1 => rw [hz2]; omega
  case c2 => unfold maxLen; omega
  case c3 => exact Nat.le_refl _
  intro w1 hown hgrow
  have hb0 : Below w.heap.size w w1 := (Below.refl _ _).grown hgrow (Nat.le_refl _) (fun k e => by cases e)
  have P0 : Hid (∃ M, w1.ownsRow w.heap.size 62 2 (.slice (some ⟨w.heap.size, 0, none⟩) n n) n M) := hide ⟨_, hown⟩
  clear hown hgrow hi hz0 hz1 hz2
  have HB0 := hide hb0
  clear hb0
  go_wp2
  go_loopw [4] (fun iv wr => ∃ k : Nat, k ≤ n ∧ iv = .int .i64 k ∧ Hid (∃ M, wr.ownsRow w.heap.size 62 2 (.slice (some ⟨w.heap.size, 0, none⟩) n n) n M ∧ ∀ i (h : i < (l.take k).length), M[i * 2]? = some (.int .i64 (l.take k)[i].1) ∧ M[i * 2 + 1]? = some (.int .i64 (l.take k)[i].2)) ∧ Hid (Below w.heap.size w wr)) (fun iv _ => n - (intOf iv).toNat)
  case atStart =>
    obtain ⟨M, hM⟩ := unhide P0
    exact ⟨0, Nat.zero_le _, rfl, hide ⟨M, hM, fun i hi => absurd hi (by simp)⟩, HB0⟩
  case round =>
    clear P0 HB0
    obtain ⟨k, hk, rfl, EM, HB⟩ := hrel
    by_cases hlt : k < n
    · have hlt' : (k : Int) < (n : Int) := by omega
      rcases (unhide HS) with e | ⟨b, off, rfl, hb, hc⟩
      · exact absurd (unhide HN) (by rw [e]; simp; omega)
      have e0 := hc k (by rw [unhide HN]; exact hlt)
      obtain ⟨y, hy⟩ : ∃ y, y = l[k]'(by rw [unhide HN]; exact hlt) := ⟨_, rfl⟩
      rw [← hy] at e0
      have TK : Hid (l.take (k + 1) = l.take k ++ [(y.1, y.2)]) := hide (by have h := take_succP (l := l) (i := k) (by rw [unhide HN]; exact hlt); rw [← hy] at h; exact h)
      clear hy hc
      have E0 : wr.cell? ⟨b, off + k * 2, none⟩ = some (.int .i64 y.1) := ((unhide HB).cell (p := ⟨b, off + k * 2, none⟩) hb).trans (e0.1)
      have E1 : wr.cell? ⟨b, off + k * 2 + 1, none⟩ = some (.int .i64 y.2) := ((unhide HB).cell (p := ⟨b, off + k * 2 + 1, none⟩) hb).trans (e0.2)
      clear e0
      go_wp2_with fail
      refine (toP y.1 y.2 _).mono ?_
      rintro e w2 ⟨rfl, hb2⟩
      have HB1 := hide (below_on (unhide HB) hb2)
      obtain ⟨M, hM, hL⟩ := unhide EM
      replace hM := ownsRow_laterP hM hb2
      have old0 : ∃ x, w2.cell? ⟨w.heap.size, k * 2, none⟩ = some x := by
        have hl := hM.1
        rw [hM.cellAt _ (by omega)]
        exact ⟨_, List.getElem?_eq_getElem (by omega)⟩
      obtain ⟨x0, o0⟩ := old0
      have old1 : ∃ x, w2.cell? ⟨w.heap.size, k * 2 + 1, none⟩ = some x := by
        have hl := hM.1
        rw [hM.cellAt _ (by omega)]
        exact ⟨_, List.getElem?_eq_getElem (by omega)⟩
      obtain ⟨x1, o1⟩ := old1
      have fr : ∀ o, w2.frozen? ⟨w.heap.size, o, none⟩ = false := fun o => hM.frozenAt o
      have HM := hide hM
      have HL := hide hL
      clear hM hL hb2 EM E0 E1
      go_wp2
      go_roundw
      case rel =>
        have hM := unhide HM
        refine ⟨k + 1, by omega, by go_num, hide ⟨_, (World.ownsRow.stored (World.ownsRow.stored hM (k * 2) (.int .i64 y.1)).1 (k * 2 + 1) (.int .i64 y.2)).1, ?_⟩, hide ?_⟩
        · rw [unhide TK]
          exact set_rowP hM.1 hlt (by rw [List.length_take, unhide HN]; omega) (unhide HL)
        · exact but_rowP.below (unhide HB1) (Nat.le_refl _) (by have := (unhide HB1).size; omega)
      case measure => simp [intOf]; omega
    · obtain rfl : k = n := by omega
      go_wp2
      go_ret
      obtain ⟨M, hM, hL⟩ := unhide EM
      rw [← unhide HN, List.take_length] at hL
      exact ⟨rfl, unhide HB, ⟨M, hM, hL⟩, unhide HN⟩
end Go.Proofs.Ythmpikagenodjaa
namespace Go.Proofs.Ythmpikagenodjaa
open Go.RowKit
set_option linter.unusedVariables false
set_option maxRecDepth 100000
set_option linter.unusedSimpArgs false

def inR (n lo hi : Int) : Bool := decide (lo ≤ n) && decide (n ≤ hi)
theorem inS8 (n lo hi : Int) (w : World) :
    Calls Try.prog 23 #[.int .i64 n, .int .i64 lo, .int .i64 hi] w fun e w' => e = .returned (.bool (inR n lo hi)) ∧ w' = w := by
  unfold inR
  by_cases h1 : lo ≤ n
  · by_cases h2 : n ≤ hi
    · have d1 : decide (lo ≤ n) = true := decide_eq_true h1
      have d2 : decide (n ≤ hi) = true := decide_eq_true h2
      go_enter Try.func23, Try.ntmps23
      go_wp2
      go_ret
      exact ⟨by first | rfl | (rw [d1, d2]; rfl), rfl⟩
    · have d1 : decide (lo ≤ n) = true := decide_eq_true h1
      have d2 : decide (n ≤ hi) = false := decide_eq_false h2
      go_enter Try.func23, Try.ntmps23
      go_wp2
      go_ret
      exact ⟨by first | rfl | (rw [d1, d2]; rfl), rfl⟩
  · have d1 : decide (lo ≤ n) = false := decide_eq_false h1
    go_enter Try.func23, Try.ntmps23
    go_wp2
    go_ret
    exact ⟨by first | rfl | (rw [d1]; rfl), rfl⟩
def gPt (p : Int × Int) : Bool := inR p.1 (-1000) 1000 && inR p.2 (-1000) 1000
theorem goodPS (x y : Int) (w : World) :
    Calls Try.prog 49 #[.agg #[.int .i64 x, .int .i64 y]] w fun e w' => e = .returned (.bool (gPt (x, y))) ∧ Below w.heap.size w w' := by
  unfold gPt
  cases h1 : inR x (-1000) 1000
  · have C1 := hide (fun w => inS8 x (-1000) 1000 w)
    rw [h1] at C1
    go_enter Try.func49, Try.ntmps49
    go_wp2_with fail
    refine (unhide C1 _).mono ?_
    rintro e w1 ⟨rfl, rfl⟩
    go_wp2_with fail
    go_ret
    exact ⟨rfl, (Below.refl _ _).alloc (Nat.le_refl _) _⟩
  · have C1 := hide (fun w => inS8 x (-1000) 1000 w)
    have C2 := hide (fun w => inS8 y (-1000) 1000 w)
    rw [h1] at C1
    generalize inR y (-1000) 1000 = r at *
    go_enter Try.func49, Try.ntmps49
    go_wp2_with fail
    refine (unhide C1 _).mono ?_
    rintro e w1 ⟨rfl, rfl⟩
    go_wp2_with fail
    refine (unhide C2 _).mono ?_
    rintro e w1 ⟨rfl, rfl⟩
    go_wp2_with fail
    go_ret
    exact ⟨by cases r <;> rfl, (Below.refl _ _).alloc (Nat.le_refl _) _⟩
set_option maxHeartbeats 2000000 in
theorem ptsS (a : Option Addr) (n c : Nat) (l : List (Int × Int)) (w : World) (h : SlP w a l) (hn : l.length = n) (hm : n ≤ maxLen) :
    Calls Try.prog 33 #[.slice a n c] w fun e w' => e = .returned (.bool (l.all gPt)) ∧ Below w.heap.size w w' := by
  have HS := hide h
  have HN := hide hn
  clear h hn
  unfold maxLen at hm
  go_enter Try.func33, Try.ntmps33
  go_wp2
  go_loopw [7] (fun iv wr => ∃ i : Nat, i ≤ n ∧ iv = .int .i64 i ∧ Hid ((l.take i).all gPt = true) ∧ Hid (Below w.heap.size w wr)) (fun iv _ => n - (intOf iv).toNat)
  case atStart => exact ⟨0, Nat.zero_le _, rfl, hide rfl, hide (Below.refl _ _)⟩
  case round =>
    obtain ⟨i, hi, rfl, HA, HB⟩ := hrel
    by_cases hlt : i < n
    · have hlt' : (i : Int) < (n : Int) := by omega
      rcases (unhide HS) with e | ⟨b, off, rfl, hb, hc⟩
      · exact absurd (unhide HN) (by rw [e]; simp; omega)
      have e0 := hc i (by rw [unhide HN]; exact hlt)
      obtain ⟨y, hy⟩ : ∃ y, y = l[i]'(by rw [unhide HN]; exact hlt) := ⟨_, rfl⟩
      rw [← hy] at e0
      have MY : Hid (y ∈ l) := hide (by rw [hy]; exact List.getElem_mem _)
      have TK : Hid ((l.take (i + 1)).all gPt = gPt y) := hide (by rw [take_succP (by rw [unhide HN]; exact hlt), List.all_append, unhide HA, ← hy]; simp)
      clear hy hc
      have E0 : wr.cell? ⟨b, off + i * 2, none⟩ = some (.int .i64 y.1) := ((unhide HB).cell (p := ⟨b, off + i * 2, none⟩) hb).trans (e0.1)
      have E1 : wr.cell? ⟨b, off + i * 2 + 1, none⟩ = some (.int .i64 y.2) := ((unhide HB).cell (p := ⟨b, off + i * 2 + 1, none⟩) hb).trans (e0.2)
      clear e0
      have C1 := hide (fun w => goodPS y.1 y.2 w)
      cases hg : gPt y
      · have hg2 : gPt (y.1, y.2) = false := hg
        rw [hg2] at C1
        have NA : Hid (l.all gPt = false) := hide (by rw [List.all_eq_false]; exact ⟨y, unhide MY, by rw [hg]; simp⟩)
        go_wp2_with fail
        refine (unhide C1 _).mono ?_
        rintro e w1 ⟨rfl, hb1⟩
        have HB1 := hide (below_on (below_on (unhide HB) ((Below.refl _ _).alloc (Nat.le_refl _) _)) hb1)
        clear hb1 E0 E1
        go_wp2
        go_ret
        exact ⟨by rw [unhide NA]; rfl, unhide HB1⟩
      · have hg2 : gPt (y.1, y.2) = true := hg
        rw [hg2] at C1
        go_wp2_with fail
        refine (unhide C1 _).mono ?_
        rintro e w1 ⟨rfl, hb1⟩
        have HB1 := hide (below_on (below_on (unhide HB) ((Below.refl _ _).alloc (Nat.le_refl _) _)) hb1)
        clear hb1 E0 E1
        go_wp2
        go_roundw
        case rel => exact ⟨i + 1, by omega, by go_num, hide (by rw [unhide TK, hg]), HB1⟩
        case measure => simp [intOf]; omega
    · obtain rfl : i = n := by omega
      have EA : Hid (l.all gPt = true) := hide (by have := unhide HA; rw [← unhide HN, List.take_length] at this; exact this)
      go_wp2
      go_ret
      exact ⟨by rw [unhide EA]; rfl, unhide HB⟩
end Go.Proofs.Ythmpikagenodjaa
namespace Go.Proofs.Ythmpikagenodjaa
open Go.RowKit
set_option linter.unusedVariables false
set_option maxRecDepth 100000
set_option linter.unusedSimpArgs false

end Go.Proofs.Ythmpikagenodjaa
namespace Go.Proofs.Ythmpikagenodjaa
open Go.RowKit
set_option linter.unusedVariables false
set_option maxRecDepth 100000
set_option linter.unusedSimpArgs false

/-- Points that lie in a block below B. -/
def SlB8 (w : World) (B : Nat) (a : Option Addr) (l : List (Int × Int)) : Prop := l = [] ∨ ∃ b off, a = some ⟨b, off, none⟩ ∧ b < B ∧ b < w.heap.size ∧ ∀ i (h : i < l.length), w.cell? ⟨b, off + i * 2, none⟩ = some (.int .i64 l[i].1) ∧ w.cell? ⟨b, off + i * 2 + 1, none⟩ = some (.int .i64 l[i].2)
theorem SlB8.sl {w : World} {B : Nat} {a : Option Addr} {l : List (Int × Int)} (h : SlB8 w B a l) : SlP w a l := by
  rcases h with h | ⟨b, off, e, h1, h2, h3⟩
  · exact .inl h
  · exact .inr ⟨b, off, e, h2, h3⟩
theorem SlB8.keep {w w' : World} {B lo hi : Nat} {a : Option Addr} {l : List (Int × Int)} (h : SlB8 w B a l) (hb : But lo hi w w') (hB : B ≤ lo) : SlB8 w' B a l := by
  rcases h with h | ⟨b, off, e, h1, h2, h3⟩
  · exact .inl h
  · exact .inr ⟨b, off, e, h1, Nat.lt_of_lt_of_le h2 hb.size, fun i hi => ⟨hb.cell (h3 i hi).1 (.inl (by omega)), hb.cell (h3 i hi).2 (.inl (by omega))⟩⟩
theorem SlB8.later {w w' : World} {B : Nat} {a : Option Addr} {l : List (Int × Int)} (h : SlB8 w B a l) (hb : Below w.heap.size w w') : SlB8 w' B a l := h.keep (But.of_below (lo := B) (hi := B) hb) (Nat.le_refl _)
theorem OwP.keep {w w' : World} {G n c lo hi : Nat} {l : List (Int × Int)} (h : OwP w G n c l) (hb : But lo hi w w') (hG : G < lo ∨ hi ≤ G) : OwP w' G n c l := by
  obtain ⟨M, hr, hM⟩ := h.row
  refine ⟨⟨M, ⟨hr.1, ?_⟩, hM⟩, h.len⟩
  rcases hr.2 with ⟨h', _⟩ | ⟨g', cap, cur, hv, h1, hg, r⟩
  · simp at h'
  · refine .inr ⟨g', cap, cur, hv, h1, ?_, r⟩
    have e : g' = G := by simp only [Value.slice.injEq, Option.some.injEq, Addr.mk.injEq, and_true, true_and] at hv; exact hv.1.symm
    subst e
    rw [hb.block _ (Array.getElem?_eq_some_iff.1 hg).1 hG]
    exact hg
theorem OwP.lt {w : World} {G n c : Nat} {l : List (Int × Int)} (h : OwP w G n c l) : G < w.heap.size := by
  obtain ⟨M, hr, _⟩ := h.row
  rcases hr.2 with ⟨h', _⟩ | ⟨g', cap, cur, hv, h1, hg, r⟩
  · simp at h'
  · have e : g' = G := by simp only [Value.slice.injEq, Option.some.injEq, Addr.mk.injEq, and_true, true_and] at hv; exact hv.1.symm
    subst e
    exact (Array.getElem?_eq_some_iff.1 hg).1
/-- n points that bear the numbers from k on. -/
def mks (k : Int) (n : Nat) : List (Int × Int) := (List.range n).map (fun i : Nat => (k + 2 * (i : Int), k + 2 * (i : Int) + 1))
theorem mks_len (k : Int) (n : Nat) : (mks k n).length = n := by simp [mks]
set_option maxHeartbeats 4000000 in
theorem markPs (G n c : Nat) (k : Int) (l : List (Int × Int)) (w : World) (h : OwP w G n c l) (h1 : n ≤ 1048576) (k0 : 0 ≤ k) (k1 : k ≤ 1000000) :
    Calls Try.prog 20 #[.slice (some ⟨G, 0, none⟩) n c, .int .i64 k] w fun e w' => e = .returned (.int .i64 (k + 2 * n)) ∧ But G (G + 1) w w' ∧ OwP w' G n c (mks k n) := by
  have R0 := hide h.row
  clear h
  go_enter Try.func20, Try.ntmps20
  go_wp2
  go_loopw [1, 5] (fun kv iv wr => ∃ i : Nat, i ≤ n ∧ iv = .int .i64 i ∧ kv = .int .i64 (k + 2 * i) ∧ Hid (But G (G + 1) w wr) ∧ Hid (∃ M, wr.ownsRow G 62 2 (.slice (some ⟨G, 0, none⟩) n c) n M ∧ ∀ j (h : j < (mks k i).length), M[j * 2]? = some (.int .i64 (mks k i)[j].1) ∧ M[j * 2 + 1]? = some (.int .i64 (mks k i)[j].2))) (fun _ iv _ => n - (intOf iv).toNat)
  case atStart =>
    obtain ⟨M, hM, _⟩ := unhide R0
    exact ⟨0, Nat.zero_le _, rfl, by simp, hide (But.refl _ _ _), hide ⟨M, hM, fun j hj => absurd hj (by simp [mks])⟩⟩
  case round =>
    obtain ⟨i, hi, rfl, rfl, HB, EM⟩ := hrel
    by_cases hlt : i < n
    · have hlt' : (i : Int) < (n : Int) := by omega
      obtain ⟨M, hM, hL⟩ := unhide EM
      have old0 : ∃ x, wr.cell? ⟨G, i * 2, none⟩ = some x := by
        have hl := hM.1
        rw [hM.cellAt _ (by omega)]
        exact ⟨_, List.getElem?_eq_getElem (by omega)⟩
      obtain ⟨x0, o0⟩ := old0
      have old1 : ∃ x, wr.cell? ⟨G, i * 2 + 1, none⟩ = some x := by
        have hl := hM.1
        rw [hM.cellAt _ (by omega)]
        exact ⟨_, List.getElem?_eq_getElem (by omega)⟩
      obtain ⟨x1, o1⟩ := old1
      have fr : ∀ o, wr.frozen? ⟨G, o, none⟩ = false := fun o => hM.frozenAt o
      have HM := hide hM
      have HL := hide hL
      have v1 : IntKind.i64.wrap (k + 2 * (i : Int) + 1) = k + 2 * (i : Int) + 1 := by rw [IntKind.wrap_i64]; omega
      have v2 : IntKind.i64.wrap (k + 2 * (i : Int) + 1 + 1) = k + 2 * (i : Int) + 1 + 1 := by rw [IntKind.wrap_i64]; omega
      clear hM hL EM
      go_wp2
      go_roundw
      case rel =>
        have hM := unhide HM
        refine ⟨i + 1, by omega, by go_num, by congr 1; omega, hide ((unhide HB).trans but_rowP), hide ⟨_, (World.ownsRow.stored (World.ownsRow.stored hM (i * 2) (.int .i64 (k + 2 * (i : Int)))).1 (i * 2 + 1) (.int .i64 (k + 2 * (i : Int) + 1))).1, ?_⟩⟩
        have em : mks k (i + 1) = mks k i ++ [(k + 2 * (i : Int), k + 2 * (i : Int) + 1)] := by simp [mks, List.range_succ]
        rw [em]
        exact set_rowP hM.1 hlt (mks_len k i) (unhide HL)
      case measure => simp [intOf]; omega
    · obtain rfl : i = n := by omega
      go_wp2
      go_ret
      exact ⟨rfl, unhide HB, unhide EM, mks_len k i⟩
/-- An answer that is a slice of points of the call's own. -/
structure RtP (B : Nat) (w : World) (a : Option Addr) (n c : Nat) (l : List (Int × Int)) : Prop where
  len : l.length = n
  own : (n = 0) ∨ ∃ G, a = some ⟨G, 0, none⟩ ∧ B ≤ G ∧ OwP w G n c l
theorem RtP.later {B : Nat} {w w' : World} {a : Option Addr} {n c : Nat} {l : List (Int × Int)} (h : RtP B w a n c l) (hb : Below w.heap.size w w') : RtP B w' a n c l := by
  refine ⟨h.len, ?_⟩
  rcases h.own with h0 | ⟨G, e, hB, ho⟩
  · exact .inl h0
  · exact .inr ⟨G, e, hB, ho.later hb⟩
theorem RtP.keep {B G : Nat} {w w' : World} {a : Option Addr} {n c : Nat} {l : List (Int × Int)} (h : RtP B w a n c l) (hb : But G (G + 1) w w') (hG : G < B) : RtP B w' a n c l := by
  refine ⟨h.len, ?_⟩
  rcases h.own with h0 | ⟨G', e, hB, ho⟩
  · exact .inl h0
  · exact .inr ⟨G', e, hB, ho.keep hb (.inr (by omega))⟩
theorem RtP.sl {B : Nat} {w : World} {a : Option Addr} {n c : Nat} {l : List (Int × Int)} (h : RtP B w a n c l) : SlP w a l := by
  rcases h.own with h0 | ⟨G, rfl, hB, ho⟩
  · exact .inl (List.length_eq_zero_iff.1 (h.len.trans h0))
  · exact ho.arg.sl
end Go.Proofs.Ythmpikagenodjaa
namespace Go.Proofs.Ythmpikagenodjaa
open Go.RowKit
set_option linter.unusedVariables false
set_option maxRecDepth 100000
set_option linter.unusedSimpArgs false

end Go.Proofs.Ythmpikagenodjaa
namespace Go.Proofs.Ythmpikagenodjaa
open Go.RowKit
set_option linter.unusedVariables false
set_option maxRecDepth 100000
set_option linter.unusedSimpArgs false

end Go.Proofs.Ythmpikagenodjaa
namespace Go.Proofs.Ythmpikagenodjaa
open Go.RowKit
set_option linter.unusedVariables false
set_option maxRecDepth 100000
set_option linter.unusedSimpArgs false

theorem withinI (n far : Int) (w : World) (h0 : 0 ≤ far) (h1 : far ≤ 1000000) :
    Calls Try.prog 62 #[.int .i64 n, .int .i64 far] w fun e w' => e = .returned (.bool (inR n (-far) far)) ∧ w' = w := by
  unfold inR
  have iw : IntKind.i64.wrap (-far) = -far := by rw [IntKind.wrap_i64]; omega
  clear h0 h1
  cases d1 : decide (-far ≤ n) <;> cases d2 : decide (n ≤ far) <;>
    (go_enter Try.func62, Try.ntmps62
     go_wp2
     go_ret
     exact ⟨rfl, rfl⟩)
theorem goodPI (x y : Int) (w : World) :
    Calls Try.prog 51 #[.agg #[.int .i64 x, .int .i64 y]] w fun e w' => e = .returned (.bool (gPt (x, y))) ∧ Below w.heap.size w w' := by
  unfold gPt
  cases h1 : inR x (-1000) 1000
  · have C1 := hide (fun w => withinI x 1000 w (by omega) (by omega))
    rw [h1] at C1
    go_enter Try.func51, Try.ntmps51
    go_wp2_with fail
    refine (unhide C1 _).mono ?_
    rintro e w1 ⟨rfl, rfl⟩
    go_wp2_with fail
    go_ret
    exact ⟨rfl, (Below.refl _ _).alloc (Nat.le_refl _) _⟩
  · have C1 := hide (fun w => withinI x 1000 w (by omega) (by omega))
    have C2 := hide (fun w => withinI y 1000 w (by omega) (by omega))
    rw [h1] at C1
    generalize inR y (-1000) 1000 = r at *
    go_enter Try.func51, Try.ntmps51
    go_wp2_with fail
    refine (unhide C1 _).mono ?_
    rintro e w1 ⟨rfl, rfl⟩
    go_wp2_with fail
    refine (unhide C2 _).mono ?_
    rintro e w1 ⟨rfl, rfl⟩
    go_wp2_with fail
    go_ret
    exact ⟨by cases r <;> rfl, (Below.refl _ _).alloc (Nat.le_refl _) _⟩
set_option maxHeartbeats 2000000 in
theorem ptsI (a : Option Addr) (n c : Nat) (l : List (Int × Int)) (w : World) (h : SlP w a l) (hn : l.length = n) (hm : n ≤ maxLen) :
    Calls Try.prog 37 #[.slice a n c] w fun e w' => e = .returned (.bool (l.all gPt)) ∧ Below w.heap.size w w' := by
  have HS := hide h
  have HN := hide hn
  clear h hn
  unfold maxLen at hm
  go_enter Try.func37, Try.ntmps37
  go_wp2
  go_loopw [7] (fun iv wr => ∃ i : Nat, i ≤ n ∧ iv = .int .i64 i ∧ Hid ((l.take i).all gPt = true) ∧ Hid (Below w.heap.size w wr)) (fun iv _ => n - (intOf iv).toNat)
  case atStart => exact ⟨0, Nat.zero_le _, rfl, hide rfl, hide (Below.refl _ _)⟩
  case round =>
    obtain ⟨i, hi, rfl, HA, HB⟩ := hrel
    by_cases hlt : i < n
    · have hlt' : (i : Int) < (n : Int) := by omega
      rcases (unhide HS) with e | ⟨b, off, rfl, hb, hc⟩
      · exact absurd (unhide HN) (by rw [e]; simp; omega)
      have e0 := hc i (by rw [unhide HN]; exact hlt)
      obtain ⟨y, hy⟩ : ∃ y, y = l[i]'(by rw [unhide HN]; exact hlt) := ⟨_, rfl⟩
      rw [← hy] at e0
      have MY : Hid (y ∈ l) := hide (by rw [hy]; exact List.getElem_mem _)
      have TK : Hid ((l.take (i + 1)).all gPt = gPt y) := hide (by rw [take_succP (by rw [unhide HN]; exact hlt), List.all_append, unhide HA, ← hy]; simp)
      clear hy hc
      have E0 : wr.cell? ⟨b, off + i * 2, none⟩ = some (.int .i64 y.1) := ((unhide HB).cell (p := ⟨b, off + i * 2, none⟩) hb).trans (e0.1)
      have E1 : wr.cell? ⟨b, off + i * 2 + 1, none⟩ = some (.int .i64 y.2) := ((unhide HB).cell (p := ⟨b, off + i * 2 + 1, none⟩) hb).trans (e0.2)
      clear e0
      have C1 := hide (fun w => goodPI y.1 y.2 w)
      cases hg : gPt y
      · have hg2 : gPt (y.1, y.2) = false := hg
        rw [hg2] at C1
        have NA : Hid (l.all gPt = false) := hide (by rw [List.all_eq_false]; exact ⟨y, unhide MY, by rw [hg]; simp⟩)
        go_wp2_with fail
        refine (unhide C1 _).mono ?_
        rintro e w1 ⟨rfl, hb1⟩
        have HB1 := hide (below_on (below_on (unhide HB) ((Below.refl _ _).alloc (Nat.le_refl _) _)) hb1)
        clear hb1 E0 E1
        go_wp2
        go_ret
        exact ⟨by rw [unhide NA]; rfl, unhide HB1⟩
      · have hg2 : gPt (y.1, y.2) = true := hg
        rw [hg2] at C1
        go_wp2_with fail
        refine (unhide C1 _).mono ?_
        rintro e w1 ⟨rfl, hb1⟩
        have HB1 := hide (below_on (below_on (unhide HB) ((Below.refl _ _).alloc (Nat.le_refl _) _)) hb1)
        clear hb1 E0 E1
        go_wp2
        go_roundw
        case rel => exact ⟨i + 1, by omega, by go_num, hide (by rw [unhide TK, hg]), HB1⟩
        case measure => simp [intOf]; omega
    · obtain rfl : i = n := by omega
      have EA : Hid (l.all gPt = true) := hide (by have := unhide HA; rw [← unhide HN, List.take_length] at this; exact this)
      go_wp2
      go_ret
      exact ⟨by rw [unhide EA]; rfl, unhide HB⟩
end Go.Proofs.Ythmpikagenodjaa
namespace Go.Proofs.Ythmpikagenodjaa
open Go.ChangeShapes Go.WideShapes Go.ChangeAt Go.RowKit Go.Joins
set_option linter.unusedVariables false
set_option maxRecDepth 100000
set_option linter.unusedSimpArgs false

theorem cellsLPt : Try.prog.cellsOf 65 = 2 := by kernel_rfl
theorem open_ptc {H : Type} {enc : TypeId × Value → H} {W : World} {m : Nat} {c0 c1 : Value} {x : DataW H × List MemPlace}
    (hf : DataW.trod enc Try.prog W 0 (fun _ => true) true m 65 [c0, c1] = some x) : ∃ q : Int × Int, c0 = .int .i64 q.1 ∧ c1 = .int .i64 q.2 := by
  obtain ⟨y0, y1, n, hx, _, h0, h1⟩ := trod_struct2 Try.underlying65 hf
  have c_i : Try.prog.cellsOf 3 = 1 := by kernel_rfl
  obtain ⟨x, e0, _, _⟩ := DataW.trod_int Try.underlying3 (show DataW.trod enc Try.prog W 0 (fun _ => true) true n 3 [c0] = some y0 by simpa [c_i] using h0)
  obtain ⟨y, e1, _, _⟩ := DataW.trod_int Try.underlying3 (show DataW.trod enc Try.prog W 0 (fun _ => true) true n 3 [c1] = some y1 by simpa [c_i] using h1)
  simp only [List.cons.injEq, and_true] at e0 e1
  exact ⟨(x, y), e0, e1⟩
theorem addr_addP (b off k : Nat) : (⟨b, off, none⟩ : Addr).add k = ⟨b, off + k, none⟩ := by
  unfold Addr.add
  split
  · rename_i h; subst h; rfl
  · rfl
theorem open_TS {H : Type} {enc : TypeId × Value → H} {W : World} {r : Reach} {b0 : Nat} {v : Value} {d : DataW H} {p : List MemPlace}
    (hv : Value.okWide Try.prog W r b0 32 v) (h : DataW.Trod enc Try.prog W 0 (fun _ => true) true 32 v d p) :
    ∃ (a : Option Addr) (n c : Nat) (l : List (Int × Int)), v = .slice a n c ∧ SlP W a l ∧ l.length = n ∧ n ≤ maxLen := by
  obtain ⟨a, n, c, rfl⟩ := okWide_slice Try.underlying32 hv
  obtain ⟨fuel, hf⟩ := h
  rcases Go.Deep.open_slice Try.underlying32 hf with ⟨hcs, _⟩ | ⟨a', len, cap, m, n', D, Pl, hcs, _, hl, hm, hmm, _, hx⟩
  · simp only [Value.cells, List.cons.injEq, Value.slice.injEq, and_true] at hcs
    obtain ⟨rfl, rfl, rfl⟩ := hcs
    exact ⟨none, 0, 0, [], rfl, .inl rfl, rfl, Nat.zero_le _⟩
  · simp only [Value.cells, List.cons.injEq, Value.slice.injEq, and_true] at hcs
    obtain ⟨rfl, rfl, rfl⟩ := hcs
    simp only [if_true] at hmm
    subst hmm
    have each : ∀ i, i < n → ∃ q : Int × Int, W.cell? ((a'.add (i * 2)).add 0) = some (.int .i64 q.1) ∧ W.cell? ((a'.add (i * 2)).add 1) = some (.int .i64 q.2) := by
      intro i hi
      obtain ⟨cs, h1, h2⟩ := hx i (by omega)
      rw [cellsLPt] at h1
      obtain ⟨_, h3, h4⟩ := World.cells?_some h1
      match cs, h3 with
      | [c0, c1], _ =>
        obtain ⟨q, rfl, rfl⟩ := open_ptc h2
        exact ⟨q, h4 0 (by omega), h4 1 (by omega)⟩
    obtain ⟨f, hf⟩ := Go.Deep.choose_lt each
    refine ⟨some a', n, m, (List.range n).map f, rfl, ?_, by simp, Nat.le_trans hl hm⟩
    by_cases h0 : n = 0
    · subst h0; exact .inl rfl
    · obtain ⟨b, off, spot⟩ := a'
      have hc := (hf 0 (by omega)).1
      have hspot : spot = none := by simpa [Addr.add] using World.cell?_spot hc
      subst hspot
      refine .inr ⟨b, off, rfl, ?_, fun i hi => ?_⟩
      · have := World.block_lt_of_cell? _ _ hc
        rw [addr_addP, addr_addP] at this
        exact this
      · have hi' : i < n := by simpa using hi
        have h1 := hf i hi'
        rw [addr_addP, addr_addP, addr_addP] at h1
        simpa using h1
end Go.Proofs.Ythmpikagenodjaa

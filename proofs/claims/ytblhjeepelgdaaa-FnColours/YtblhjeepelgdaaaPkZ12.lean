/- Good simple ways, of both sides, by value. No condition beyond those typed. Written by mkgs11.py. -/
import Derived.Test.YtblhjeepelgdaaaPtM
import Derived.Test.YtblhjeepelgdaaaSp8T
import Derived.Maps.AppendAt
import Derived.Test.YtblhjeepelgdaaaMark
import Derived.Test.YtblhjeepelgdaaaSp8X
import Derived.Test.YtblhjeepelgdaaaDr8
import Derived.Deep.RegionHeld3
import Derived.BigQuiet
import Derived.Test.YtblhjeepelgdaaaIm8
import Derived.Test.YtblhjeepelgdaaaSimE8
namespace Go.Proofs.Ytblhjeepelgdaaa
open Go.RowKit
set_option linter.unusedVariables false
set_option maxRecDepth 100000
set_option linter.unusedSimpArgs false

theorem toT (x y z : Int) (w : World) :
    Calls Try.prog 39 #[.agg #[.int .i64 x, .int .i64 y, .int .i64 z]] w fun e w' => e = .returned (.agg #[.int .i64 x, .int .i64 y, .int .i64 z]) ∧ Below w.heap.size w w' := by
  go_enter Try.func39, Try.ntmps39
  go_wp2
  refine bodyPost_ret (v := .agg #[.int .i64 x, .int .i64 y, .int .i64 z]) (by simp [results, Try.results39, go_sem]) rfl ⟨rfl, ?_⟩
  exact (((Below.refl _ _).alloc (Nat.le_refl _) _).alloc (by simp) _).alloc (by simp; omega) _
/-- A slice that reads as these points. -/
def SlT (w : World) (a : Option Addr) (l : List (Int × Int × Int)) : Prop := l = [] ∨ ∃ b off, a = some ⟨b, off, none⟩ ∧ b < w.heap.size ∧ ∀ i (h : i < l.length), w.cell? ⟨b, off + i * 3, none⟩ = some (.int .i64 l[i].1) ∧ w.cell? ⟨b, off + i * 3 + 1, none⟩ = some (.int .i64 l[i].2.1) ∧ w.cell? ⟨b, off + i * 3 + 2, none⟩ = some (.int .i64 l[i].2.2)
theorem SlT.later {w w' : World} {a : Option Addr} {l : List (Int × Int × Int)} (h : SlT w a l) (hb : Below w.heap.size w w') : SlT w' a l := by
  rcases h with h | ⟨b, off, rfl, h1, h2⟩
  · exact .inl h
  · exact .inr ⟨b, off, rfl, Nat.lt_of_lt_of_le h1 hb.size, fun i hi => ⟨cell_later hb ((h2 i hi).1), cell_later hb ((h2 i hi).2.1), cell_later hb ((h2 i hi).2.2)⟩⟩
/-- .. as an argument. -/
structure ArT (w : World) (a : Option Addr) (n c : Nat) (l : List (Int × Int × Int)) : Prop where
  sl : SlT w a l
  len : l.length = n
  cap : n ≤ c
  top : c ≤ maxLen
theorem ArT.later {w w' : World} {a : Option Addr} {n c : Nat} {l : List (Int × Int × Int)} (h : ArT w a n c l) (hb : Below w.heap.size w w') : ArT w' a n c l := ⟨h.sl.later hb, h.len, h.cap, h.top⟩
theorem szTs (a : Option Addr) (n c : Nat) (left : Int) (w : World) (hm : n ≤ maxLen) (h0 : 0 ≤ left) (h1 : left ≤ 1048576) :
    Calls Try.prog 35 #[.slice a n c, .int .i64 left] w fun e w' => Below w.heap.size w w' ∧ ((e = .returned (.int .i64 (-1)) ∧ left < n) ∨ (e = .returned (.int .i64 (left - n)) ∧ (n : Int) ≤ left)) := by
  unfold maxLen at hm
  have iw : IntKind.i64.wrap (left - (n : Int)) = left - (n : Int) := by rw [IntKind.wrap_i64]; omega
  by_cases c0 : left - (n : Int) < 0
  · have d0 : decide (left - (n : Int) < 0) = true := decide_eq_true c0
    go_enter Try.func35, Try.ntmps35
    go_wp2
    go_ret
    exact ⟨Below.refl _ _, .inl ⟨rfl, by omega⟩⟩
  · have d0 : decide (left - (n : Int) < 0) = false := decide_eq_false c0
    go_enter Try.func35, Try.ntmps35
    go_wp2
    go_ret
    exact ⟨Below.refl _ _, .inr ⟨rfl, by omega⟩⟩
theorem eqT (x y z : Int) (w : World) :
    Calls Try.prog 71 #[.agg #[.int .i64 x, .int .i64 y, .int .i64 z], .agg #[.int .i64 x, .int .i64 y, .int .i64 z]] w fun e w' => e = .returned (.bool true) ∧ Below w.heap.size w w' := by
  go_enter Try.func71, Try.ntmps71
  go_wp2
  go_ret
  exact ⟨rfl, ((Below.refl _ _).alloc (Nat.le_refl _) _).alloc (by simp) _⟩
theorem take_succT {l : List (Int × Int × Int)} {i : Nat} (h : i < l.length) : l.take (i + 1) = l.take i ++ [l[i]] := (List.take_append_getElem h).symm
set_option maxHeartbeats 4000000 in
theorem eqTs (a a' : Option Addr) (n c c' : Nat) (l : List (Int × Int × Int)) (w : World) (h : SlT w a l) (h' : SlT w a' l) (hn : l.length = n) (hm : n ≤ maxLen) :
    Calls Try.prog 32 #[.slice a n c, .slice a' n c'] w fun e w' => e = .returned (.bool true) ∧ Below w.heap.size w w' := by
  have HS := hide h
  have HS' := hide h'
  have HN := hide hn
  clear h hn h'
  unfold maxLen at hm
  go_enter Try.func32, Try.ntmps32
  go_wp2
  go_loopw [5] (fun iv wr => ∃ (i : Nat), i ≤ n ∧ iv = .int .i64 i ∧ Hid (Below w.heap.size w wr)) (fun iv _ => n - (intOf iv).toNat)
  case atStart => exact ⟨0, Nat.zero_le _, rfl, hide (Below.refl _ _)⟩
  case round =>
    obtain ⟨i, hi, rfl, HB⟩ := hrel
    by_cases hlt : i < n
    · have hlt' : (i : Int) < (n : Int) := by omega
      rcases (unhide HS) with e | ⟨b, off, rfl, hb, hc⟩
      · exact absurd (unhide HN) (by rw [e]; simp; omega)
      have e0 := hc i (by rw [unhide HN]; exact hlt)
      rcases (unhide HS') with e | ⟨b', off', rfl, hb', hc'⟩
      · exact absurd (unhide HN) (by rw [e]; simp; omega)
      have f0 := hc' i (by rw [unhide HN]; exact hlt)
      obtain ⟨y, hy⟩ : ∃ y, y = l[i]'(by rw [unhide HN]; exact hlt) := ⟨_, rfl⟩
      rw [← hy] at e0 f0
      clear hy hc hc'
      have E0 : wr.cell? ⟨b, off + i * 3, none⟩ = some (.int .i64 y.1) := ((unhide HB).cell (p := ⟨b, off + i * 3, none⟩) hb).trans (e0.1)
      have E1 : wr.cell? ⟨b, off + i * 3 + 1, none⟩ = some (.int .i64 y.2.1) := ((unhide HB).cell (p := ⟨b, off + i * 3 + 1, none⟩) hb).trans (e0.2.1)
      have E2 : wr.cell? ⟨b, off + i * 3 + 2, none⟩ = some (.int .i64 y.2.2) := ((unhide HB).cell (p := ⟨b, off + i * 3 + 2, none⟩) hb).trans (e0.2.2)
      have F0 : wr.cell? ⟨b', off' + i * 3, none⟩ = some (.int .i64 y.1) := ((unhide HB).cell (p := ⟨b', off' + i * 3, none⟩) hb').trans (f0.1)
      have F1 : wr.cell? ⟨b', off' + i * 3 + 1, none⟩ = some (.int .i64 y.2.1) := ((unhide HB).cell (p := ⟨b', off' + i * 3 + 1, none⟩) hb').trans (f0.2.1)
      have F2 : wr.cell? ⟨b', off' + i * 3 + 2, none⟩ = some (.int .i64 y.2.2) := ((unhide HB).cell (p := ⟨b', off' + i * 3 + 2, none⟩) hb').trans (f0.2.2)
      clear e0 f0
      go_upto_region 6 with fail
      go_region_held3 (fun w' => w'.cell? ⟨b, off + i * 3, none⟩ = some (.int .i64 y.1) ∧ w'.cell? ⟨b, off + i * 3 + 1, none⟩ = some (.int .i64 y.2.1) ∧ w'.cell? ⟨b, off + i * 3 + 2, none⟩ = some (.int .i64 y.2.2) ∧ w'.cell? ⟨b', off' + i * 3, none⟩ = some (.int .i64 y.1) ∧ w'.cell? ⟨b', off' + i * 3 + 1, none⟩ = some (.int .i64 y.2.1) ∧ w'.cell? ⟨b', off' + i * 3 + 2, none⟩ = some (.int .i64 y.2.2))
        (with_reducible (first | exact ⟨E0, E1, E2, F0, F1, F2⟩ | exact ⟨cdP E0, cdP E1, cdP E2, cdP F0, cdP F1, cdP F2⟩ | fail))
        (first
        | (go_at_call 71; refine (eqT y.1 y.2.1 y.2.2 _).mono ?_; rintro e w1 ⟨rfl, hb1⟩; have HB1 := hide (below_on (unhide HB) (below_of_drew hb1)); have hbx := below_of_drew hb1; replace E0 := cell_later hbx E0; replace E1 := cell_later hbx E1; replace F0 := cell_later hbx F0; replace F1 := cell_later hbx F1; replace E2 := cell_later hbx E2; replace F2 := cell_later hbx F2; clear hb1 hbx)
        | fail)
      clear E0 F0 E1 F1 E2 F2
      go_wp2
      go_roundw
      case rel => exact ⟨i + 1, by omega, by go_num, HB1⟩
      case measure => simp [intOf]; omega
    · obtain rfl : i = n := by omega
      go_wp2
      go_ret
      exact ⟨rfl, unhide HB⟩
/-- Points in a row of one's own, at block G. -/
structure OwT (w : World) (G n c : Nat) (l : List (Int × Int × Int)) : Prop where
  row : ∃ M, w.ownsRow G 33 3 (.slice (some ⟨G, 0, none⟩) n c) n M ∧ ∀ i (h : i < l.length), M[i * 3]? = some (.int .i64 l[i].1) ∧ M[i * 3 + 1]? = some (.int .i64 l[i].2.1) ∧ M[i * 3 + 2]? = some (.int .i64 l[i].2.2)
  len : l.length = n
theorem OwT.later {w w' : World} {G n c : Nat} {l : List (Int × Int × Int)} (h : OwT w G n c l) (hb : Below w.heap.size w w') : OwT w' G n c l := by
  obtain ⟨M, hr, hM⟩ := h.row
  exact ⟨⟨M, ownsRow_laterP hr hb, hM⟩, h.len⟩
theorem OwT.arg {w : World} {G n c : Nat} {l : List (Int × Int × Int)} (h : OwT w G n c l) : ArT w (some ⟨G, 0, none⟩) n c l := by
  obtain ⟨M, hr, hM⟩ := h.row
  have hl := h.len
  rcases hr.2 with ⟨h', _⟩ | ⟨g', cap, cur, hv, h1, hg, r1, r2, r3⟩
  · simp at h'
  simp only [Value.slice.injEq, Option.some.injEq, Addr.mk.injEq, and_true, true_and] at hv
  obtain ⟨rfl, rfl⟩ := hv
  refine ⟨.inr ⟨G, 0, rfl, (Array.getElem?_eq_some_iff.1 hg).1, fun i hi => ?_⟩, hl, r1, r2⟩
  have hc := hM i hi
  refine ⟨?_, ?_, ?_⟩ <;> rw [Nat.zero_add, hr.cellAt _ (by omega)]
  · exact hc.1
  · exact hc.2.1
  · exact hc.2.2
theorem but_rowT {w : World} {G k : Nat} {x y z : Value} : But G (G + 1) w (((w.setCell ⟨G, k * 3, none⟩ x).setCell ⟨G, k * 3 + 1, none⟩ y).setCell ⟨G, k * 3 + 2, none⟩ z) := ((((But.refl _ _ _).set (p := ⟨G, k * 3, none⟩) (Nat.le_refl G) (Nat.lt_succ_self G) x).set (p := ⟨G, k * 3 + 1, none⟩) (Nat.le_refl G) (Nat.lt_succ_self G) y).set (p := ⟨G, k * 3 + 2, none⟩) (Nat.le_refl G) (Nat.lt_succ_self G) z)
theorem infoTri : (Try.prog.info? 33).map (fun i => (i.zero, i.size, i.bytes)) = some (some (.agg #[.int .i64 0, .int .i64 0, .int .i64 0]), 3, 24) := by kernel_rfl
theorem set_rowT {M : List Value} {us : List (Int × Int × Int)} {n k : Nat} {x y z : Int} (hM : M.length = n * 3) (hk : k < n) (hu : us.length = k) (h : ∀ i (h : i < us.length), M[i * 3]? = some (.int .i64 us[i].1) ∧ M[i * 3 + 1]? = some (.int .i64 us[i].2.1) ∧ M[i * 3 + 2]? = some (.int .i64 us[i].2.2)) :
    ∀ i (h : i < (us ++ [(x, y, z)]).length), (((M.set (k * 3) (.int .i64 x)).set (k * 3 + 1) (.int .i64 y)).set (k * 3 + 2) (.int .i64 z))[i * 3]? = some (.int .i64 (us ++ [(x, y, z)])[i].1) ∧ (((M.set (k * 3) (.int .i64 x)).set (k * 3 + 1) (.int .i64 y)).set (k * 3 + 2) (.int .i64 z))[i * 3 + 1]? = some (.int .i64 (us ++ [(x, y, z)])[i].2.1) ∧ (((M.set (k * 3) (.int .i64 x)).set (k * 3 + 1) (.int .i64 y)).set (k * 3 + 2) (.int .i64 z))[i * 3 + 2]? = some (.int .i64 (us ++ [(x, y, z)])[i].2.2) := by
  intro i hi
  by_cases e : i < k
  · have hi' : i < us.length := by omega
    have h1 := h i hi'
    rw [List.getElem_append_left hi']
    simp only [List.getElem?_set]
    refine ⟨?_, ?_, ?_⟩
    · rw [if_neg (by omega), if_neg (by omega), if_neg (by omega)]; exact h1.1
    · rw [if_neg (by omega), if_neg (by omega), if_neg (by omega)]; exact h1.2.1
    · rw [if_neg (by omega), if_neg (by omega), if_neg (by omega)]; exact h1.2.2
  · obtain rfl : i = k := by simp at hi; omega
    subst hu
    rw [List.getElem_append_right (Nat.le_refl _)]
    simp only [Nat.sub_self, List.getElem_cons_zero]
    refine ⟨?_, ?_, ?_⟩
    · simp only [List.getElem?_set, List.length_set]; rw [if_neg (by omega), if_neg (by omega)]; rw [if_pos trivial, if_pos (by omega)]
    · simp only [List.getElem?_set, List.length_set]; rw [if_neg (by omega)]; rw [if_pos trivial, if_pos (by omega)]
    · simp only [List.getElem?_set, List.length_set]; rw [if_pos trivial, if_pos (by omega)]
set_option maxHeartbeats 4000000 in
theorem toTs (a : Option Addr) (n c : Nat) (l : List (Int × Int × Int)) (w : World) (h : SlT w a l) (hn : l.length = n) (h1 : n ≤ 1048576) :
    Calls Try.prog 37 #[.slice a n c] w fun e w' => e = .returned (.slice (some ⟨w.heap.size, 0, none⟩) n n) ∧ Below w.heap.size w w' ∧ OwT w' w.heap.size n n l := by
  obtain ⟨i0, hi, hz0, hz1, hz2⟩ := info_parts infoTri
  have HS := hide h
  have HN := hide hn
  clear h hn
  go_enter Try.func37, Try.ntmps37
  go_wp2_with (at_make; refine wpList_make_full _ rfl _ _ 29 rfl w.heap.size 33 i0 (.agg #[.int .i64 0, .int .i64 0, .int .i64 0]) 3 Try.underlying29 hi hz0 hz1 .i64 .i64 _ _ n rfl rfl rfl rfl ?c1 ?c2 ?c3 ?_)
  case c1 => rw [hz2]; omega
  case c2 => unfold maxLen; omega
  case c3 => exact Nat.le_refl _
  intro w1 hown hgrow
  have hb0 : Below w.heap.size w w1 := (Below.refl _ _).grown hgrow (Nat.le_refl _) (fun k e => by cases e)
  have P0 : Hid (∃ M, w1.ownsRow w.heap.size 33 3 (.slice (some ⟨w.heap.size, 0, none⟩) n n) n M) := hide ⟨_, hown⟩
  clear hown hgrow hi hz0 hz1 hz2
  have HB0 := hide hb0
  clear hb0
  go_wp2
  go_loopw [4] (fun iv wr => ∃ k : Nat, k ≤ n ∧ iv = .int .i64 k ∧ Hid (∃ M, wr.ownsRow w.heap.size 33 3 (.slice (some ⟨w.heap.size, 0, none⟩) n n) n M ∧ ∀ i (h : i < (l.take k).length), M[i * 3]? = some (.int .i64 (l.take k)[i].1) ∧ M[i * 3 + 1]? = some (.int .i64 (l.take k)[i].2.1) ∧ M[i * 3 + 2]? = some (.int .i64 (l.take k)[i].2.2)) ∧ Hid (Below w.heap.size w wr)) (fun iv _ => n - (intOf iv).toNat)
  case atStart =>
    obtain ⟨M, hM⟩ := unhide P0
    exact ⟨0, Nat.zero_le _, rfl, hide ⟨M, hM, fun i hi => absurd hi (by simp)⟩, HB0⟩
  case round =>
    clear P0 HB0
    obtain ⟨k, hk, rfl, EM, HB⟩ := hrel
    by_cases hlt : k < n
    · have hlt' : (k : Int) < (n : Int) := by omega
      rcases (unhide HS) with e | ⟨b, off, rfl, hb, hc⟩
      · exact absurd (unhide HN) (by rw [e]; simp; omega)
      have e0 := hc k (by rw [unhide HN]; exact hlt)
      obtain ⟨y, hy⟩ : ∃ y, y = l[k]'(by rw [unhide HN]; exact hlt) := ⟨_, rfl⟩
      rw [← hy] at e0
      have TK : Hid (l.take (k + 1) = l.take k ++ [(y.1, y.2.1, y.2.2)]) := hide (by have h := take_succT (l := l) (i := k) (by rw [unhide HN]; exact hlt); rw [← hy] at h; exact h)
      clear hy hc
      have E0 : wr.cell? ⟨b, off + k * 3, none⟩ = some (.int .i64 y.1) := ((unhide HB).cell (p := ⟨b, off + k * 3, none⟩) hb).trans (e0.1)
      have E1 : wr.cell? ⟨b, off + k * 3 + 1, none⟩ = some (.int .i64 y.2.1) := ((unhide HB).cell (p := ⟨b, off + k * 3 + 1, none⟩) hb).trans (e0.2.1)
      have E2 : wr.cell? ⟨b, off + k * 3 + 2, none⟩ = some (.int .i64 y.2.2) := ((unhide HB).cell (p := ⟨b, off + k * 3 + 2, none⟩) hb).trans (e0.2.2)
      clear e0
      go_wp2_with fail
      refine (toT y.1 y.2.1 y.2.2 _).mono ?_
      rintro e w2 ⟨rfl, hb2⟩
      have HB1 := hide (below_on (unhide HB) hb2)
      obtain ⟨M, hM, hL⟩ := unhide EM
      replace hM := ownsRow_laterP hM hb2
      have old0 : ∃ x, w2.cell? ⟨w.heap.size, k * 3, none⟩ = some x := by
        have hl := hM.1
        rw [hM.cellAt _ (by omega)]
        exact ⟨_, List.getElem?_eq_getElem (by omega)⟩
      obtain ⟨x0, o0⟩ := old0
      have old1 : ∃ x, w2.cell? ⟨w.heap.size, k * 3 + 1, none⟩ = some x := by
        have hl := hM.1
        rw [hM.cellAt _ (by omega)]
        exact ⟨_, List.getElem?_eq_getElem (by omega)⟩
      obtain ⟨x1, o1⟩ := old1
      have old2 : ∃ x, w2.cell? ⟨w.heap.size, k * 3 + 2, none⟩ = some x := by
        have hl := hM.1
        rw [hM.cellAt _ (by omega)]
        exact ⟨_, List.getElem?_eq_getElem (by omega)⟩
      obtain ⟨x2, o2⟩ := old2
      have fr : ∀ o, w2.frozen? ⟨w.heap.size, o, none⟩ = false := fun o => hM.frozenAt o
      have HM := hide hM
      have HL := hide hL
      clear hM hL hb2 EM E0 E1 E2
      go_wp2
      go_roundw
      case rel =>
        have hM := unhide HM
        refine ⟨k + 1, by omega, by go_num, hide ⟨_, (World.ownsRow.stored (World.ownsRow.stored (World.ownsRow.stored hM (k * 3) (.int .i64 y.1)).1 (k * 3 + 1) (.int .i64 y.2.1)).1 (k * 3 + 2) (.int .i64 y.2.2)).1, ?_⟩, hide ?_⟩
        · rw [unhide TK]
          exact set_rowT hM.1 hlt (by rw [List.length_take, unhide HN]; omega) (unhide HL)
        · exact but_rowT.below (unhide HB1) (Nat.le_refl _) (by have := (unhide HB1).size; omega)
      case measure => simp [intOf]; omega
    · obtain rfl : k = n := by omega
      go_wp2
      go_ret
      obtain ⟨M, hM, hL⟩ := unhide EM
      rw [← unhide HN, List.take_length] at hL
      exact ⟨rfl, unhide HB, ⟨M, hM, hL⟩, unhide HN⟩

theorem OwT.keep {w w' : World} {G n c lo hi : Nat} {l : List (Int × Int × Int)} (h : OwT w G n c l) (hb : But lo hi w w') (hG : G < lo ∨ hi ≤ G) : OwT w' G n c l := by
  obtain ⟨M, hr, hM⟩ := h.row
  refine ⟨⟨M, ⟨hr.1, ?_⟩, hM⟩, h.len⟩
  rcases hr.2 with ⟨h', _⟩ | ⟨g', cap, cur, hv, h1, hg, r⟩
  · simp at h'
  · refine .inr ⟨g', cap, cur, hv, h1, ?_, r⟩
    have e : g' = G := by simp only [Value.slice.injEq, Option.some.injEq, Addr.mk.injEq, and_true, true_and] at hv; exact hv.1.symm
    subst e
    rw [hb.block _ (Array.getElem?_eq_some_iff.1 hg).1 hG]
    exact hg
theorem OwT.lt {w : World} {G n c : Nat} {l : List (Int × Int × Int)} (h : OwT w G n c l) : G < w.heap.size := by
  obtain ⟨M, hr, _⟩ := h.row
  rcases hr.2 with ⟨h', _⟩ | ⟨g', cap, cur, hv, h1, hg, r⟩
  · simp at h'
  · have e : g' = G := by simp only [Value.slice.injEq, Option.some.injEq, Addr.mk.injEq, and_true, true_and] at hv; exact hv.1.symm
    subst e
    exact (Array.getElem?_eq_some_iff.1 hg).1
/-- n triangles that bear the numbers from k on. -/
def mk3 (k : Int) (n : Nat) : List (Int × Int × Int) := (List.range n).map (fun i : Nat => (k + 3 * (i : Int), k + 3 * (i : Int) + 1, k + 3 * (i : Int) + 2))
theorem mk3_len (k : Int) (n : Nat) : (mk3 k n).length = n := by simp [mk3]
theorem mk3_at {k : Int} {n i : Nat} (h : i < (mk3 k n).length) : (mk3 k n)[i] = (k + 3 * (i : Int), k + 3 * (i : Int) + 1, k + 3 * (i : Int) + 2) := by simp [mk3]
set_option maxHeartbeats 4000000 in
theorem markTs (G n c : Nat) (k : Int) (l : List (Int × Int × Int)) (w : World) (h : OwT w G n c l) (h1 : n ≤ 1048576) (k0 : 0 ≤ k) (k1 : k ≤ 1000000) :
    Calls Try.prog 33 #[.slice (some ⟨G, 0, none⟩) n c, .int .i64 k] w fun e w' => e = .returned (.int .i64 (k + 3 * n)) ∧ But G (G + 1) w w' ∧ OwT w' G n c (mk3 k n) := by
  have R0 := hide h.row
  clear h
  go_enter Try.func33, Try.ntmps33
  go_wp2
  go_loopw [1, 5] (fun kv iv wr => ∃ i : Nat, i ≤ n ∧ iv = .int .i64 i ∧ kv = .int .i64 (k + 3 * i) ∧ Hid (But G (G + 1) w wr) ∧ Hid (∃ M, wr.ownsRow G 33 3 (.slice (some ⟨G, 0, none⟩) n c) n M ∧ ∀ j (h : j < (mk3 k i).length), M[j * 3]? = some (.int .i64 (mk3 k i)[j].1) ∧ M[j * 3 + 1]? = some (.int .i64 (mk3 k i)[j].2.1) ∧ M[j * 3 + 2]? = some (.int .i64 (mk3 k i)[j].2.2))) (fun _ iv _ => n - (intOf iv).toNat)
  case atStart =>
    obtain ⟨M, hM, _⟩ := unhide R0
    exact ⟨0, Nat.zero_le _, rfl, by simp, hide (But.refl _ _ _), hide ⟨M, hM, fun j hj => absurd hj (by simp [mk3])⟩⟩
  case round =>
    obtain ⟨i, hi, rfl, rfl, HB, EM⟩ := hrel
    by_cases hlt : i < n
    · have hlt' : (i : Int) < (n : Int) := by omega
      obtain ⟨M, hM, hL⟩ := unhide EM
      have old0 : ∃ x, wr.cell? ⟨G, i * 3, none⟩ = some x := by
        have hl := hM.1
        rw [hM.cellAt _ (by omega)]
        exact ⟨_, List.getElem?_eq_getElem (by omega)⟩
      obtain ⟨x0, o0⟩ := old0
      have old1 : ∃ x, wr.cell? ⟨G, i * 3 + 1, none⟩ = some x := by
        have hl := hM.1
        rw [hM.cellAt _ (by omega)]
        exact ⟨_, List.getElem?_eq_getElem (by omega)⟩
      obtain ⟨x1, o1⟩ := old1
      have old2 : ∃ x, wr.cell? ⟨G, i * 3 + 2, none⟩ = some x := by
        have hl := hM.1
        rw [hM.cellAt _ (by omega)]
        exact ⟨_, List.getElem?_eq_getElem (by omega)⟩
      obtain ⟨x2, o2⟩ := old2
      have fr : ∀ o, wr.frozen? ⟨G, o, none⟩ = false := fun o => hM.frozenAt o
      have HM := hide hM
      have HL := hide hL
      have v1 : IntKind.i64.wrap (k + 3 * (i : Int) + 1) = k + 3 * (i : Int) + 1 := by rw [IntKind.wrap_i64]; omega
      have v3 : IntKind.i64.wrap (k + 3 * (i : Int) + 2 + 1) = k + 3 * (i : Int) + 3 := by rw [IntKind.wrap_i64]; omega
      have v2 : IntKind.i64.wrap (k + 3 * (i : Int) + 1 + 1) = k + 3 * (i : Int) + 2 := by rw [IntKind.wrap_i64]; omega
      clear hM hL EM
      go_wp2
      go_roundw
      case rel =>
        have hM := unhide HM
        refine ⟨i + 1, by omega, by go_num, by congr 1; omega, hide ((unhide HB).trans but_rowT), hide ⟨_, (World.ownsRow.stored (World.ownsRow.stored (World.ownsRow.stored hM (i * 3) (.int .i64 (k + 3 * (i : Int)))).1 (i * 3 + 1) (.int .i64 (k + 3 * (i : Int) + 1))).1 (i * 3 + 2) (.int .i64 (k + 3 * (i : Int) + 2))).1, ?_⟩⟩
        have em : mk3 k (i + 1) = mk3 k i ++ [(k + 3 * (i : Int), k + 3 * (i : Int) + 1, k + 3 * (i : Int) + 2)] := by simp [mk3, List.range_succ]
        rw [em]
        exact set_rowT hM.1 hlt (mk3_len k i) (unhide HL)
      case measure => simp [intOf]; omega
    · obtain rfl : i = n := by omega
      go_wp2
      go_ret
      exact ⟨rfl, unhide HB, unhide EM, mk3_len k i⟩
set_option maxHeartbeats 4000000 in
theorem heldTs (a : Option Addr) (n c : Nat) (k : Int) (w : World) (h : SlT w a (mk3 k n)) (h1 : n ≤ 1048576) (k0 : 0 ≤ k) (k1 : k ≤ 1000000) :
    Calls Try.prog 34 #[.slice a n c, .int .i64 k] w fun e w' => e = .returned (.int .i64 (k + 3 * n)) ∧ Below w.heap.size w w' := by
  have HS := hide h
  clear h
  go_enter Try.func34, Try.ntmps34
  go_wp2
  go_loopw [1, 5] (fun kv iv wr => ∃ i : Nat, i ≤ n ∧ iv = .int .i64 i ∧ kv = .int .i64 (k + 3 * i) ∧ Hid (Below w.heap.size w wr)) (fun _ iv _ => n - (intOf iv).toNat)
  case atStart => exact ⟨0, Nat.zero_le _, rfl, by simp, hide (Below.refl _ _)⟩
  case round =>
    obtain ⟨i, hi, rfl, rfl, HB⟩ := hrel
    by_cases hlt : i < n
    · have hlt' : (i : Int) < (n : Int) := by omega
      rcases (unhide HS) with e | ⟨b, off, rfl, hb, hc⟩
      · exact absurd (mk3_len k n) (by rw [e]; simp; omega)
      have e0 := hc i (by rw [mk3_len]; exact hlt)
      rw [mk3_at] at e0
      clear hc
      have E0 : wr.cell? ⟨b, off + i * 3, none⟩ = some (.int .i64 (k + 3 * (i : Int))) := ((unhide HB).cell (p := ⟨b, off + i * 3, none⟩) hb).trans (e0.1)
      have E1 : wr.cell? ⟨b, off + i * 3 + 1, none⟩ = some (.int .i64 (k + 3 * (i : Int) + 1)) := ((unhide HB).cell (p := ⟨b, off + i * 3 + 1, none⟩) hb).trans (e0.2.1)
      have E2 : wr.cell? ⟨b, off + i * 3 + 2, none⟩ = some (.int .i64 (k + 3 * (i : Int) + 2)) := ((unhide HB).cell (p := ⟨b, off + i * 3 + 2, none⟩) hb).trans (e0.2.2)
      clear e0
      have v1 : IntKind.i64.wrap (k + 3 * (i : Int) + 1) = k + 3 * (i : Int) + 1 := by rw [IntKind.wrap_i64]; omega
      have v3 : IntKind.i64.wrap (k + 3 * (i : Int) + 2 + 1) = k + 3 * (i : Int) + 3 := by rw [IntKind.wrap_i64]; omega
      have v2 : IntKind.i64.wrap (k + 3 * (i : Int) + 1 + 1) = k + 3 * (i : Int) + 2 := by rw [IntKind.wrap_i64]; omega
      go_wp2
      go_roundw
      case rel => exact ⟨i + 1, by omega, by go_num, by congr 1; omega, HB⟩
      case measure => simp [intOf]; omega
    · obtain rfl : i = n := by omega
      go_wp2
      go_ret
      exact ⟨rfl, unhide HB⟩
/-- An answer that is a slice of points of the call's own. -/
structure RtT (B : Nat) (w : World) (a : Option Addr) (n c : Nat) (l : List (Int × Int × Int)) : Prop where
  len : l.length = n
  own : (n = 0) ∨ ∃ G, a = some ⟨G, 0, none⟩ ∧ B ≤ G ∧ OwT w G n c l
theorem RtT.later {B : Nat} {w w' : World} {a : Option Addr} {n c : Nat} {l : List (Int × Int × Int)} (h : RtT B w a n c l) (hb : Below w.heap.size w w') : RtT B w' a n c l := by
  refine ⟨h.len, ?_⟩
  rcases h.own with h0 | ⟨G, e, hB, ho⟩
  · exact .inl h0
  · exact .inr ⟨G, e, hB, ho.later hb⟩
theorem RtT.keep {B G : Nat} {w w' : World} {a : Option Addr} {n c : Nat} {l : List (Int × Int × Int)} (h : RtT B w a n c l) (hb : But G (G + 1) w w') (hG : G < B) : RtT B w' a n c l := by
  refine ⟨h.len, ?_⟩
  rcases h.own with h0 | ⟨G', e, hB, ho⟩
  · exact .inl h0
  · exact .inr ⟨G', e, hB, ho.keep hb (.inr (by omega))⟩
theorem RtT.sl {B : Nat} {w : World} {a : Option Addr} {n c : Nat} {l : List (Int × Int × Int)} (h : RtT B w a n c l) : SlT w a l := by
  rcases h.own with h0 | ⟨G, rfl, hB, ho⟩
  · exact .inl (List.length_eq_zero_iff.1 (h.len.trans h0))
  · exact ho.arg.sl
/-- Marks of an answer: what lies below B stays. -/
theorem markRtT (B : Nat) (a : Option Addr) (n c : Nat) (k : Int) (l : List (Int × Int × Int)) (w : World) (h : RtT B w a n c l) (h1 : n ≤ 1048576) (k0 : 0 ≤ k) (k1 : k ≤ 1000000) (hB : B ≤ w.heap.size) :
    Calls Try.prog 33 #[.slice a n c, .int .i64 k] w fun e w' => e = .returned (.int .i64 (k + 3 * n)) ∧ Below B w w' ∧ RtT B w' a n c (mk3 k n) := by
  rcases h.own with h0 | ⟨G, rfl, hG, ho⟩
  · subst h0
    go_enter Try.func33, Try.ntmps33
    go_wp2
    refine wp_loop_rounds 1 ?_
    rw [rounds_succ]
    go_wp2
    go_ret
    exact ⟨by simp, Below.refl _ _, ⟨rfl, .inl rfl⟩⟩
  · refine (markTs G n c k l w ho h1 k0 k1).mono ?_
    rintro e w1 ⟨rfl, hb, o1⟩
    exact ⟨rfl, hb.below (Below.refl _ _) hG hB, ⟨mk3_len k n, .inr ⟨G, rfl, hG, o1⟩⟩⟩
end Go.Proofs.Ytblhjeepelgdaaa
namespace Go.Proofs.Ytblhjeepelgdaaa
open Go.RowKit
set_option linter.unusedVariables false
set_option maxRecDepth 100000
set_option linter.unusedSimpArgs false

/-- A row of numbers of one's own, in a block from B on (or the nil slice). -/
structure RwI (B : Nat) (w : World) (v : Value) (L : List Int) : Prop where
  row : w.ownsRow B 3 1 v L.length (L.map (Value.int .i64))
theorem owns_laterR {B k : Nat} {t : TypeId} {w w' : World} {v : Value} {n : Nat} {xs : List Value} (h : w.ownsRow B t k v n xs) (hb : Below w.heap.size w w') : w'.ownsRow B t k v n xs := by
  refine ⟨h.1, ?_⟩
  rcases h.2 with h' | ⟨g', cap, cur, hv, h1, hg, r⟩
  · exact .inl h'
  · refine .inr ⟨g', cap, cur, hv, h1, ?_, r⟩
    rw [hb.block g' (Array.getElem?_eq_some_iff.1 hg).1]
    exact hg
theorem owns_belowR {B k : Nat} {t : TypeId} {W wr w1 : World} {o : Obj} {v : Value} {n : Nat} {xs : List Value} (hb : Below B W wr) (hB : B ≤ wr.heap.size) (hown : wr.ownsRow B t k v n xs) (hg : (wr.alloc o).grownBy w1 v.ownBlock) : Below B W w1 := by
  refine (hb.alloc hB o).grown hg (by simp; omega) (fun k hk => ?_)
  rcases hown.2 with ⟨h', _⟩ | ⟨g', cap, cur, hv, h1, _⟩
  · subst h'; simp [Value.ownBlock] at hk
  · subst hv; simp [Value.ownBlock] at hk; subst hk; exact h1
theorem RwI.later {B : Nat} {w w' : World} {v : Value} {L : List Int} (h : RwI B w v L) (hb : Below w.heap.size w w') : RwI B w' v L := ⟨owns_laterR h.row hb⟩
theorem RwI.nil (B : Nat) (w : World) : RwI B w (.slice none 0 0) [] := ⟨rfl, .inl ⟨rfl, rfl⟩⟩
theorem RwI.mono {B B' : Nat} {w : World} {v : Value} {L : List Int} (h : RwI B w v L) (hb : B' ≤ B) : RwI B' w v L := ⟨owns_mono h.row hb⟩
theorem RwI.open {B : Nat} {w : World} {v : Value} {L : List Int} (h : RwI B w v L) :
    (v = .slice none 0 0 ∧ L = []) ∨ ∃ g c, v = .slice (some ⟨g, 0, none⟩) L.length c ∧ B ≤ g ∧ g < w.heap.size ∧ L.length ≤ c ∧ c ≤ maxLen ∧ ∀ i (h : i < L.length), w.cell? ⟨g, i, none⟩ = some (.int .i64 L[i]) := by
  rcases h.row.2 with h' | ⟨g, c, cur, hv, h1, hg, h2, h3, h4, h5⟩
  · exact .inl ⟨h'.1, List.length_eq_zero_iff.1 h'.2⟩
  · have ho := h.row
    rw [hv] at ho
    refine .inr ⟨g, c, hv, h1, (Array.getElem?_eq_some_iff.1 hg).1, h2, h3, fun i hi => ?_⟩
    rw [ho.cellAt _ (by omega)]
    simp [hi]
theorem RwI.sl {B : Nat} {w : World} {v : Value} {L : List Int} (h : RwI B w v L) : ∃ a c, v = .slice a L.length c ∧ Sl w a L := by
  rcases h.open with ⟨rfl, rfl⟩ | ⟨g, c, rfl, h1, h2, h3, h4, h5⟩
  · exact ⟨none, 0, rfl, .inl rfl⟩
  · exact ⟨_, c, rfl, .inr ⟨g, 0, rfl, h2, fun i hi => by simpa [hi] using h5 i hi⟩⟩
theorem new_cellI (w : World) (x : Int) : ∀ j u, [Value.int .i64 x][j]? = some u → (w.alloc (.cells #[.int .i64 x] 3)).cell? ((⟨w.heap.size, 0, none⟩ : Addr).add j) = some u := by
  intro j u h
  match j, h with
  | 0, h => simp at h; subst h; simp [Addr.add, go_sem]
  | j + 1, h => simp at h
theorem RwI.snoc {B : Nat} {w : World} {v : Value} {L : List Int} {x : Int} (h : w.ownsRow B 3 1 v (L.length + 1) (L.map (Value.int .i64) ++ [.int .i64 x])) : RwI B w v (L ++ [x]) := ⟨by rw [List.map_append, List.length_append]; exact h⟩
theorem RwI.blk {B : Nat} {w : World} {v : Value} {L : List Int} (h : RwI B w v L) : ∀ k, v.ownBlock = some k → B ≤ k := by
  rcases h.open with ⟨rfl, _⟩ | ⟨g, c, rfl, hB, _⟩
  · intro k hk; simp [Value.ownBlock] at hk
  · intro k hk; simp [Value.ownBlock] at hk; subst hk; exact hB
def flatT (l : List (Int × Int × Int)) : List Value := l.flatMap (fun p => [.int .i64 p.1, .int .i64 p.2.1, .int .i64 p.2.2])
theorem flatT_append (l m : List (Int × Int × Int)) : flatT (l ++ m) = flatT l ++ flatT m := by simp [flatT]
theorem flatT_at : ∀ (l : List (Int × Int × Int)) (i : Nat) (h : i < l.length), (flatT l)[i * 3]? = some (.int .i64 l[i].1) ∧ (flatT l)[i * 3 + 1]? = some (.int .i64 l[i].2.1) ∧ (flatT l)[i * 3 + 2]? = some (.int .i64 l[i].2.2)
  | [], i, h => by simp at h
  | p :: l, 0, h => by simp [flatT]
  | p :: l, i + 1, h => by
    have ih := flatT_at l i (by simpa using h)
    have e : flatT (p :: l) = .int .i64 p.1 :: .int .i64 p.2.1 :: .int .i64 p.2.2 :: flatT l := by simp [flatT]
    rw [e, show (i + 1) * 3 = i * 3 + 1 + 1 + 1 by omega]
    simpa using ih
theorem flatT_len : ∀ l : List (Int × Int × Int), (flatT l).length = l.length * 3
  | [] => by simp [flatT]
  | p :: l => by
    have e : flatT (p :: l) = .int .i64 p.1 :: .int .i64 p.2.1 :: .int .i64 p.2.2 :: flatT l := by simp [flatT]
    rw [e]; simp [flatT_len l]; omega
/-- A row of triangles of one's own, in a block from B on (or the nil slice). -/
structure RwT (B : Nat) (w : World) (v : Value) (L : List (Int × Int × Int)) : Prop where
  row : w.ownsRow B 33 3 v L.length (flatT L)
theorem RwT.later {B : Nat} {w w' : World} {v : Value} {L : List (Int × Int × Int)} (h : RwT B w v L) (hb : Below w.heap.size w w') : RwT B w' v L := ⟨owns_laterR h.row hb⟩
theorem RwT.nil (B : Nat) (w : World) : RwT B w (.slice none 0 0) [] := ⟨rfl, .inl ⟨rfl, rfl⟩⟩
theorem RwT.mono {B B' : Nat} {w : World} {v : Value} {L : List (Int × Int × Int)} (h : RwT B w v L) (hb : B' ≤ B) : RwT B' w v L := ⟨owns_mono h.row hb⟩
theorem RwT.open {B : Nat} {w : World} {v : Value} {L : List (Int × Int × Int)} (h : RwT B w v L) :
    (v = .slice none 0 0 ∧ L = []) ∨ ∃ g c, v = .slice (some ⟨g, 0, none⟩) L.length c ∧ B ≤ g ∧ g < w.heap.size ∧ L.length ≤ c ∧ c ≤ maxLen ∧ ∀ i (h : i < L.length), w.cell? ⟨g, i * 3, none⟩ = some (.int .i64 L[i].1) ∧ w.cell? ⟨g, i * 3 + 1, none⟩ = some (.int .i64 L[i].2.1) ∧ w.cell? ⟨g, i * 3 + 2, none⟩ = some (.int .i64 L[i].2.2) := by
  rcases h.row.2 with h' | ⟨g, c, cur, hv, h1, hg, h2, h3, h4, h5⟩
  · exact .inl ⟨h'.1, List.length_eq_zero_iff.1 h'.2⟩
  · have ho := h.row
    rw [hv] at ho
    refine .inr ⟨g, c, hv, h1, (Array.getElem?_eq_some_iff.1 hg).1, h2, h3, fun i hi => ?_⟩
    have f := flatT_at L i hi
    have fl := flatT_len L
    exact ⟨by rw [ho.cellAt _ (by omega)]; exact f.1, by rw [ho.cellAt _ (by omega)]; exact f.2.1, by rw [ho.cellAt _ (by omega)]; exact f.2.2⟩
theorem RwT.sl {B : Nat} {w : World} {v : Value} {L : List (Int × Int × Int)} (h : RwT B w v L) : ∃ a c, v = .slice a L.length c ∧ SlT w a L := by
  rcases h.open with ⟨rfl, rfl⟩ | ⟨g, c, rfl, h1, h2, h3, h4, h5⟩
  · exact ⟨none, 0, rfl, .inl rfl⟩
  · exact ⟨_, c, rfl, .inr ⟨g, 0, rfl, h2, fun i hi => by simpa using h5 i hi⟩⟩
theorem RwT.rt {B : Nat} {w : World} {v : Value} {L : List (Int × Int × Int)} (h : RwT B w v L) : ∃ a c, v = .slice a L.length c ∧ RtT B w a L.length c L := by
  rcases h.row.2 with ⟨rfl, h'⟩ | ⟨g, cap, cur, rfl, hb, r⟩
  · exact ⟨none, 0, by rw [h'], rfl, .inl h'⟩
  · exact ⟨_, _, rfl, rfl, .inr ⟨g, rfl, hb, ⟨flatT L, ⟨h.row.1, .inr ⟨g, cap, cur, rfl, Nat.le_refl _, r⟩⟩, flatT_at L⟩, rfl⟩⟩
theorem new_cellT (w : World) (x y z : Int) : ∀ j u, [Value.int .i64 x, Value.int .i64 y, Value.int .i64 z][j]? = some u → (w.alloc (.cells #[.int .i64 x, .int .i64 y, .int .i64 z] 33)).cell? ((⟨w.heap.size, 0, none⟩ : Addr).add j) = some u := by
  intro j u h
  match j, h with
  | 0, h => simp at h; subst h; simp [Addr.add, go_sem]
  | 1, h => simp at h; subst h; simp [Addr.add, go_sem]
  | 2, h => simp at h; subst h; simp [Addr.add, go_sem]
  | j + 3, h => simp at h
theorem RwT.snoc {B : Nat} {w : World} {v : Value} {L : List (Int × Int × Int)} {t : Int × Int × Int} (h : w.ownsRow B 33 3 v (L.length + 1) (flatT L ++ [.int .i64 t.1, .int .i64 t.2.1, .int .i64 t.2.2])) : RwT B w v (L ++ [t]) := ⟨by rw [flatT_append, List.length_append]; exact h⟩
end Go.Proofs.Ytblhjeepelgdaaa
namespace Go.Proofs.Ytblhjeepelgdaaa
open Go.RowKit
set_option linter.unusedVariables false
set_option maxRecDepth 100000
set_option linter.unusedSimpArgs false

/-- An answer of integers, in a block of its own from B on. -/
structure RtI (B : Nat) (w : World) (a : Option Addr) (n c : Nat) (l : List Int) : Prop where
  len : l.length = n
  own : Own B w a l
theorem RtI.later {B : Nat} {w w' : World} {a : Option Addr} {n c : Nat} {l : List Int} (h : RtI B w a n c l) (hb : Below w.heap.size w w') : RtI B w' a n c l := ⟨h.len, h.own.later hb⟩
theorem RtI.sl {B : Nat} {w : World} {a : Option Addr} {n c : Nat} {l : List Int} (h : RtI B w a n c l) : Sl w a l := h.own.sl
theorem RtI.mono {B B' : Nat} {w : World} {a : Option Addr} {n c : Nat} {l : List Int} (h : RtI B w a n c l) (hb : B' ≤ B) : RtI B' w a n c l := ⟨h.len, h.own.mono hb⟩
theorem RtI.keep {B G : Nat} {w w' : World} {a : Option Addr} {n c : Nat} {l : List Int} (h : RtI B w a n c l) (hb : But G (G + 1) w w') (hG : G < B) : RtI B w' a n c l := by
  refine ⟨h.len, ?_⟩
  rcases h.own with h0 | ⟨b, cur, e, h1, h2, h3⟩
  · exact .inl h0
  · refine .inr ⟨b, cur, e, h1, ?_, h3⟩
    rw [hb.block b (Array.getElem?_eq_some_iff.1 h2).1 (.inr (by omega))]
    exact h2
theorem markRtI (B : Nat) (a : Option Addr) (n c : Nat) (k : Int) (l : List Int) (w : World) (h : RtI B w a n c l) (h1 : n ≤ 1048576) (k0 : 0 ≤ k) (k1 : k ≤ 1000000) (hB : B ≤ w.heap.size) :
    Calls Try.prog 29 #[.slice a n c, .int .i64 k] w fun e w' => e = .returned (.int .i64 (k + n)) ∧ Below B w w' ∧ RtI B w' a n c (marks k n) := by
  refine (mark_own a n c l k B w.heap.size w h.own.two h.len h1 k0 (by omega)).mono ?_
  rintro e w1 ⟨rfl, hb, o1⟩
  exact ⟨rfl, hb.below (Below.refl _ _) (Nat.le_refl _) hB, ⟨by simp [marks], o1.own⟩⟩
theorem heldRtI (a : Option Addr) (n c : Nat) (k : Int) (w : World) (h : Sl w a (marks k n)) (h1 : n ≤ 1048576) (k0 : 0 ≤ k) (k1 : k ≤ 1000000) :
    Calls Try.prog 30 #[.slice a n c, .int .i64 k] w fun e w' => e = .returned (.int .i64 (k + n)) ∧ Below w.heap.size w w' := by
  refine (heldI_any a n c k w h h1 k0 (by omega)).mono ?_
  rintro e w1 ⟨rfl, rfl⟩
  exact ⟨rfl, Below.refl _ _⟩
/-- A slice of integers that lies below B. -/
def SlI8 (w : World) (B : Nat) (a : Option Addr) (l : List Int) : Prop := l = [] ∨ ∃ b off, a = some ⟨b, off, none⟩ ∧ b < B ∧ b < w.heap.size ∧ ∀ i, i < l.length → w.cell? ⟨b, off + i, none⟩ = some (.int .i64 (l.getD i 0))
theorem Sl.below8 {w : World} {a : Option Addr} {l : List Int} (h : Sl w a l) : SlI8 w w.heap.size a l := by
  rcases h with h | ⟨b, off, e, hb, hc⟩
  · exact .inl h
  · exact .inr ⟨b, off, e, hb, hb, hc⟩
theorem SlI8.sl {w : World} {B : Nat} {a : Option Addr} {l : List Int} (h : SlI8 w B a l) : Sl w a l := by
  rcases h with h | ⟨b, off, e, _, hb, hc⟩
  · exact .inl h
  · exact .inr ⟨b, off, e, hb, hc⟩
theorem SlI8.keep {w w' : World} {B lo hi : Nat} {a : Option Addr} {l : List Int} (h : SlI8 w B a l) (hb : But lo hi w w') (hB : B ≤ lo) : SlI8 w' B a l := by
  rcases h with h | ⟨b, off, e, h0, h1, hc⟩
  · exact .inl h
  · exact .inr ⟨b, off, e, h0, Nat.lt_of_lt_of_le h1 hb.size, fun i hi => hb.cell (hc i hi) (.inl (by omega))⟩
theorem SlI8.later {w w' : World} {B : Nat} {a : Option Addr} {l : List Int} (h : SlI8 w B a l) (hb : Below w.heap.size w w') : SlI8 w' B a l := h.keep (But.of_below (lo := B) (hi := B) hb) (Nat.le_refl _)
/-- A slice of triangles that lies below B. -/
def SlT8 (w : World) (B : Nat) (a : Option Addr) (l : List (Int × Int × Int)) : Prop := l = [] ∨ ∃ b off, a = some ⟨b, off, none⟩ ∧ b < B ∧ b < w.heap.size ∧ ∀ i (h : i < l.length), w.cell? ⟨b, off + i * 3, none⟩ = some (.int .i64 l[i].1) ∧ w.cell? ⟨b, off + i * 3 + 1, none⟩ = some (.int .i64 l[i].2.1) ∧ w.cell? ⟨b, off + i * 3 + 2, none⟩ = some (.int .i64 l[i].2.2)
theorem SlT.below8 {w : World} {a : Option Addr} {l : List (Int × Int × Int)} (h : SlT w a l) : SlT8 w w.heap.size a l := by
  rcases h with h | ⟨b, off, e, hb, hc⟩
  · exact .inl h
  · exact .inr ⟨b, off, e, hb, hb, hc⟩
theorem SlT8.sl {w : World} {B : Nat} {a : Option Addr} {l : List (Int × Int × Int)} (h : SlT8 w B a l) : SlT w a l := by
  rcases h with h | ⟨b, off, e, _, hb, hc⟩
  · exact .inl h
  · exact .inr ⟨b, off, e, hb, hc⟩
theorem SlT8.keep {w w' : World} {B lo hi : Nat} {a : Option Addr} {l : List (Int × Int × Int)} (h : SlT8 w B a l) (hb : But lo hi w w') (hB : B ≤ lo) : SlT8 w' B a l := by
  rcases h with h | ⟨b, off, e, h0, h1, hc⟩
  · exact .inl h
  · refine .inr ⟨b, off, e, h0, Nat.lt_of_lt_of_le h1 hb.size, fun i hi => ?_⟩
    obtain ⟨c1, c2, c3⟩ := hc i hi
    exact ⟨hb.cell c1 (.inl (by omega)), hb.cell c2 (.inl (by omega)), hb.cell c3 (.inl (by omega))⟩
theorem SlT8.later {w w' : World} {B : Nat} {a : Option Addr} {l : List (Int × Int × Int)} (h : SlT8 w B a l) (hb : Below w.heap.size w w') : SlT8 w' B a l := h.keep (But.of_below (lo := B) (hi := B) hb) (Nat.le_refl _)
theorem RwI.rt {B : Nat} {w : World} {v : Value} {L : List Int} (h : RwI B w v L) : ∃ a c, v = .slice a L.length c ∧ RtI B w a L.length c L := by
  rcases h.open with ⟨rfl, rfl⟩ | ⟨g, c, rfl, _⟩
  · exact ⟨none, 0, rfl, ⟨rfl, .inl rfl⟩⟩
  · exact ⟨_, c, rfl, ⟨rfl, Own.of_owns h.row rfl⟩⟩
end Go.Proofs.Ytblhjeepelgdaaa
namespace Go.Proofs.Ytblhjeepelgdaaa
open Go.RowKit
set_option linter.unusedVariables false
set_option maxRecDepth 100000
set_option linter.unusedSimpArgs false

def inK (x y z : Int) : Bool := (decide (0 ≤ x) && decide (0 ≤ y) && decide (0 ≤ z)) || (decide (x ≤ 0) && decide (y ≤ 0) && decide (z ≤ 0))
/-- A point in a triangle or on it. -/
def inT (a b c p : Int × Int) : Bool := inK (sgZ (crs a b p)) (sgZ (crs b c p)) (sgZ (crs c a p))
def itB (a b c p : Int × Int) : Bool := [a, b, c, p].all gPt && !(sgZ (crs a b c) == 0)
def itV (a b c p : Int × Int) : Bool := itB a b c p && inT a b c p
set_option maxHeartbeats 4000000 in
theorem inS11 (a b c p : Int × Int) (w : World) (ha : Near a) (hb : Near b) (hc : Near c) (hp : Near p) :
    Calls Try.prog 76 #[.agg #[.int .i64 a.1, .int .i64 a.2], .agg #[.int .i64 b.1, .int .i64 b.2], .agg #[.int .i64 c.1, .int .i64 c.2], .agg #[.int .i64 p.1, .int .i64 p.2]] w fun e w' => e = .returned (.bool (inT a b c p)) ∧ Below w.heap.size w w' := by
  have C0 := hide (fun w => orientS8 a b p w ha hb hp)
  have C1 := hide (fun w => orientS8 b c p w hb hc hp)
  have C2 := hide (fun w => orientS8 c a p w hc ha hp)
  have b0 := sg_bd (crs a b p)
  have b1 := sg_bd (crs b c p)
  have b2 := sg_bd (crs c a p)
  unfold inT
  generalize sgZ (crs a b p) = x at *
  generalize sgZ (crs b c p) = y at *
  generalize sgZ (crs c a p) = z at *
  clear ha hb hc hp
  have BW : Hid (Below w.heap.size w w) := hide (Below.refl _ _)
  have al : Below w.heap.size w ((((w.alloc (.cells #[.int .i64 a.1, .int .i64 a.2] 59)).alloc (.cells #[.int .i64 b.1, .int .i64 b.2] 59)).alloc (.cells #[.int .i64 c.1, .int .i64 c.2] 59)).alloc (.cells #[.int .i64 p.1, .int .i64 p.2] 59)) := (((((Below.refl _ _).alloc (Nat.le_refl _) _).alloc (by simp) _).alloc (by simp; omega) _).alloc (by simp; omega) _)
  replace BW := hide (below_on (unhide BW) al)
  clear al
  have Ka : Hid (BxP ((((w.alloc (.cells #[.int .i64 a.1, .int .i64 a.2] 59)).alloc (.cells #[.int .i64 b.1, .int .i64 b.2] 59)).alloc (.cells #[.int .i64 c.1, .int .i64 c.2] 59)).alloc (.cells #[.int .i64 p.1, .int .i64 p.2] 59)) (w.heap.size) a.1 a.2) := hide (((((BxP.new (w := w) (x := a.1) (y := a.2) (t := 59)).later ((Below.refl _ _).alloc (Nat.le_refl _) _)).later ((Below.refl _ _).alloc (Nat.le_refl _) _)).later ((Below.refl _ _).alloc (Nat.le_refl _) _)))
  have zz : (w.alloc (.cells #[.int .i64 a.1, .int .i64 a.2] 59)).heap.size = w.heap.size + 1 := by simp
  have Kb : Hid (BxP ((((w.alloc (.cells #[.int .i64 a.1, .int .i64 a.2] 59)).alloc (.cells #[.int .i64 b.1, .int .i64 b.2] 59)).alloc (.cells #[.int .i64 c.1, .int .i64 c.2] 59)).alloc (.cells #[.int .i64 p.1, .int .i64 p.2] 59)) (w.heap.size + 1) b.1 b.2) := hide (zz ▸ (((BxP.new (w := (w.alloc (.cells #[.int .i64 a.1, .int .i64 a.2] 59))) (x := b.1) (y := b.2) (t := 59)).later ((Below.refl _ _).alloc (Nat.le_refl _) _)).later ((Below.refl _ _).alloc (Nat.le_refl _) _)))
  clear zz
  have zz : ((w.alloc (.cells #[.int .i64 a.1, .int .i64 a.2] 59)).alloc (.cells #[.int .i64 b.1, .int .i64 b.2] 59)).heap.size = w.heap.size + 1 + 1 := by simp
  have Kc : Hid (BxP ((((w.alloc (.cells #[.int .i64 a.1, .int .i64 a.2] 59)).alloc (.cells #[.int .i64 b.1, .int .i64 b.2] 59)).alloc (.cells #[.int .i64 c.1, .int .i64 c.2] 59)).alloc (.cells #[.int .i64 p.1, .int .i64 p.2] 59)) (w.heap.size + 1 + 1) c.1 c.2) := hide (zz ▸ ((BxP.new (w := ((w.alloc (.cells #[.int .i64 a.1, .int .i64 a.2] 59)).alloc (.cells #[.int .i64 b.1, .int .i64 b.2] 59))) (x := c.1) (y := c.2) (t := 59)).later ((Below.refl _ _).alloc (Nat.le_refl _) _)))
  clear zz
  have zz : (((w.alloc (.cells #[.int .i64 a.1, .int .i64 a.2] 59)).alloc (.cells #[.int .i64 b.1, .int .i64 b.2] 59)).alloc (.cells #[.int .i64 c.1, .int .i64 c.2] 59)).heap.size = w.heap.size + 1 + 1 + 1 := by simp
  have Kp : Hid (BxP ((((w.alloc (.cells #[.int .i64 a.1, .int .i64 a.2] 59)).alloc (.cells #[.int .i64 b.1, .int .i64 b.2] 59)).alloc (.cells #[.int .i64 c.1, .int .i64 c.2] 59)).alloc (.cells #[.int .i64 p.1, .int .i64 p.2] 59)) (w.heap.size + 1 + 1 + 1) p.1 p.2) := hide (zz ▸ (BxP.new (w := (((w.alloc (.cells #[.int .i64 a.1, .int .i64 a.2] 59)).alloc (.cells #[.int .i64 b.1, .int .i64 b.2] 59)).alloc (.cells #[.int .i64 c.1, .int .i64 c.2] 59))) (x := p.1) (y := p.2) (t := 59)))
  clear zz
  go_enter Try.func76, Try.ntmps76
  go_upto_region 1 with fail
  generalize ((((w.alloc (.cells #[.int .i64 a.1, .int .i64 a.2] 59)).alloc (.cells #[.int .i64 b.1, .int .i64 b.2] 59)).alloc (.cells #[.int .i64 c.1, .int .i64 c.2] 59)).alloc (.cells #[.int .i64 p.1, .int .i64 p.2] 59)) = w1 at *
  have Ka_0 := (unhide Ka).c0
  have Ka_1 := (unhide Ka).c1
  have Kb_0 := (unhide Kb).c0
  have Kb_1 := (unhide Kb).c1
  have Kp_0 := (unhide Kp).c0
  have Kp_1 := (unhide Kp).c1
  go_wp2_with fail
  refine (unhide C0 _).mono ?_
  rintro e w2 ⟨rfl, hb⟩
  clear Ka_0 Ka_1 Kb_0 Kb_1 Kp_0 Kp_1
  replace Ka := hide ((unhide Ka).later hb)
  replace Kb := hide ((unhide Kb).later hb)
  replace Kc := hide ((unhide Kc).later hb)
  replace Kp := hide ((unhide Kp).later hb)
  replace BW := hide (below_on (unhide BW) hb)
  clear hb
  have Kb_0 := (unhide Kb).c0
  have Kb_1 := (unhide Kb).c1
  have Kc_0 := (unhide Kc).c0
  have Kc_1 := (unhide Kc).c1
  have Kp_0 := (unhide Kp).c0
  have Kp_1 := (unhide Kp).c1
  go_wp2_with fail
  refine (unhide C1 _).mono ?_
  rintro e w3 ⟨rfl, hb⟩
  clear Kb_0 Kb_1 Kc_0 Kc_1 Kp_0 Kp_1
  replace Ka := hide ((unhide Ka).later hb)
  replace Kb := hide ((unhide Kb).later hb)
  replace Kc := hide ((unhide Kc).later hb)
  replace Kp := hide ((unhide Kp).later hb)
  replace BW := hide (below_on (unhide BW) hb)
  clear hb
  have Kc_0 := (unhide Kc).c0
  have Kc_1 := (unhide Kc).c1
  have Ka_0 := (unhide Ka).c0
  have Ka_1 := (unhide Ka).c1
  have Kp_0 := (unhide Kp).c0
  have Kp_1 := (unhide Kp).c1
  go_wp2_with fail
  refine (unhide C2 _).mono ?_
  rintro e w4 ⟨rfl, hb⟩
  clear Kc_0 Kc_1 Ka_0 Ka_1 Kp_0 Kp_1
  replace Ka := hide ((unhide Ka).later hb)
  replace Kb := hide ((unhide Kb).later hb)
  replace Kc := hide ((unhide Kc).later hb)
  replace Kp := hide ((unhide Kp).later hb)
  replace BW := hide (below_on (unhide BW) hb)
  clear hb
  clear Ka Kb Kc Kp
  clear C0 C1 C2
  obtain rfl | rfl | rfl : x = -1 ∨ x = 0 ∨ x = 1 := by omega
  all_goals obtain rfl | rfl | rfl : y = -1 ∨ y = 0 ∨ y = 1 := by omega
  all_goals obtain rfl | rfl | rfl : z = -1 ∨ z = 0 ∨ z = 1 := by omega
  all_goals clear b0 b1 b2
  all_goals go_wp2_with fail
  all_goals go_ret
  all_goals exact ⟨rfl, unhide BW⟩
set_option maxHeartbeats 4000000 in
theorem InTriangleS (a b c p : Int × Int) (w : World) :
    Calls Try.prog 40 #[.agg #[.int .i64 a.1, .int .i64 a.2], .agg #[.int .i64 b.1, .int .i64 b.2], .agg #[.int .i64 c.1, .int .i64 c.2], .agg #[.int .i64 p.1, .int .i64 p.2]] w fun e w' => e = .returned (.tuple #[.bool (itV a b c p), .bool (itB a b c p)]) ∧ Below w.heap.size w w' := by
  cases hg : [a, b, c, p].all gPt
  · have e0 : itB a b c p = false := by unfold itB; rw [hg]; rfl
    have e1 : itV a b c p = false := by unfold itV; rw [e0]; rfl
    rw [e0, e1]
    clear e0 e1
    have HG := hide hg
    clear hg
    have BW : Hid (Below w.heap.size w w) := hide (Below.refl _ _)
    have al : Below w.heap.size w ((((w.alloc (.cells #[.int .i64 a.1, .int .i64 a.2] 59)).alloc (.cells #[.int .i64 b.1, .int .i64 b.2] 59)).alloc (.cells #[.int .i64 c.1, .int .i64 c.2] 59)).alloc (.cells #[.int .i64 p.1, .int .i64 p.2] 59)) := (((((Below.refl _ _).alloc (Nat.le_refl _) _).alloc (by simp) _).alloc (by simp; omega) _).alloc (by simp; omega) _)
    replace BW := hide (below_on (unhide BW) al)
    clear al
    have Ka : Hid (BxP ((((w.alloc (.cells #[.int .i64 a.1, .int .i64 a.2] 59)).alloc (.cells #[.int .i64 b.1, .int .i64 b.2] 59)).alloc (.cells #[.int .i64 c.1, .int .i64 c.2] 59)).alloc (.cells #[.int .i64 p.1, .int .i64 p.2] 59)) (w.heap.size) a.1 a.2) := hide (((((BxP.new (w := w) (x := a.1) (y := a.2) (t := 59)).later ((Below.refl _ _).alloc (Nat.le_refl _) _)).later ((Below.refl _ _).alloc (Nat.le_refl _) _)).later ((Below.refl _ _).alloc (Nat.le_refl _) _)))
    have zz : (w.alloc (.cells #[.int .i64 a.1, .int .i64 a.2] 59)).heap.size = w.heap.size + 1 := by simp
    have Kb : Hid (BxP ((((w.alloc (.cells #[.int .i64 a.1, .int .i64 a.2] 59)).alloc (.cells #[.int .i64 b.1, .int .i64 b.2] 59)).alloc (.cells #[.int .i64 c.1, .int .i64 c.2] 59)).alloc (.cells #[.int .i64 p.1, .int .i64 p.2] 59)) (w.heap.size + 1) b.1 b.2) := hide (zz ▸ (((BxP.new (w := (w.alloc (.cells #[.int .i64 a.1, .int .i64 a.2] 59))) (x := b.1) (y := b.2) (t := 59)).later ((Below.refl _ _).alloc (Nat.le_refl _) _)).later ((Below.refl _ _).alloc (Nat.le_refl _) _)))
    clear zz
    have zz : ((w.alloc (.cells #[.int .i64 a.1, .int .i64 a.2] 59)).alloc (.cells #[.int .i64 b.1, .int .i64 b.2] 59)).heap.size = w.heap.size + 1 + 1 := by simp
    have Kc : Hid (BxP ((((w.alloc (.cells #[.int .i64 a.1, .int .i64 a.2] 59)).alloc (.cells #[.int .i64 b.1, .int .i64 b.2] 59)).alloc (.cells #[.int .i64 c.1, .int .i64 c.2] 59)).alloc (.cells #[.int .i64 p.1, .int .i64 p.2] 59)) (w.heap.size + 1 + 1) c.1 c.2) := hide (zz ▸ ((BxP.new (w := ((w.alloc (.cells #[.int .i64 a.1, .int .i64 a.2] 59)).alloc (.cells #[.int .i64 b.1, .int .i64 b.2] 59))) (x := c.1) (y := c.2) (t := 59)).later ((Below.refl _ _).alloc (Nat.le_refl _) _)))
    clear zz
    have zz : (((w.alloc (.cells #[.int .i64 a.1, .int .i64 a.2] 59)).alloc (.cells #[.int .i64 b.1, .int .i64 b.2] 59)).alloc (.cells #[.int .i64 c.1, .int .i64 c.2] 59)).heap.size = w.heap.size + 1 + 1 + 1 := by simp
    have Kp : Hid (BxP ((((w.alloc (.cells #[.int .i64 a.1, .int .i64 a.2] 59)).alloc (.cells #[.int .i64 b.1, .int .i64 b.2] 59)).alloc (.cells #[.int .i64 c.1, .int .i64 c.2] 59)).alloc (.cells #[.int .i64 p.1, .int .i64 p.2] 59)) (w.heap.size + 1 + 1 + 1) p.1 p.2) := hide (zz ▸ (BxP.new (w := (((w.alloc (.cells #[.int .i64 a.1, .int .i64 a.2] 59)).alloc (.cells #[.int .i64 b.1, .int .i64 b.2] 59)).alloc (.cells #[.int .i64 c.1, .int .i64 c.2] 59))) (x := p.1) (y := p.2) (t := 59)))
    clear zz
    have C3 : Hid (SlP (((((w.alloc (.cells #[.int .i64 a.1, .int .i64 a.2] 59)).alloc (.cells #[.int .i64 b.1, .int .i64 b.2] 59)).alloc (.cells #[.int .i64 c.1, .int .i64 c.2] 59)).alloc (.cells #[.int .i64 p.1, .int .i64 p.2] 59)).alloc (.cells #[.int .i64 a.1, .int .i64 a.2, .int .i64 b.1, .int .i64 b.2, .int .i64 c.1, .int .i64 c.2, .int .i64 p.1, .int .i64 p.2] 59)) (some ⟨w.heap.size + 1 + 1 + 1 + 1, 0, none⟩) [a, b, c, p]) := hide (by have k := cellsP4 ((((w.alloc (.cells #[.int .i64 a.1, .int .i64 a.2] 59)).alloc (.cells #[.int .i64 b.1, .int .i64 b.2] 59)).alloc (.cells #[.int .i64 c.1, .int .i64 c.2] 59)).alloc (.cells #[.int .i64 p.1, .int .i64 p.2] 59)) a b c p; rw [show ((((w.alloc (.cells #[.int .i64 a.1, .int .i64 a.2] 59)).alloc (.cells #[.int .i64 b.1, .int .i64 b.2] 59)).alloc (.cells #[.int .i64 c.1, .int .i64 c.2] 59)).alloc (.cells #[.int .i64 p.1, .int .i64 p.2] 59)).heap.size = w.heap.size + 1 + 1 + 1 + 1 by simp] at k; exact k)
    have al : Below ((((w.alloc (.cells #[.int .i64 a.1, .int .i64 a.2] 59)).alloc (.cells #[.int .i64 b.1, .int .i64 b.2] 59)).alloc (.cells #[.int .i64 c.1, .int .i64 c.2] 59)).alloc (.cells #[.int .i64 p.1, .int .i64 p.2] 59)).heap.size ((((w.alloc (.cells #[.int .i64 a.1, .int .i64 a.2] 59)).alloc (.cells #[.int .i64 b.1, .int .i64 b.2] 59)).alloc (.cells #[.int .i64 c.1, .int .i64 c.2] 59)).alloc (.cells #[.int .i64 p.1, .int .i64 p.2] 59)) (((((w.alloc (.cells #[.int .i64 a.1, .int .i64 a.2] 59)).alloc (.cells #[.int .i64 b.1, .int .i64 b.2] 59)).alloc (.cells #[.int .i64 c.1, .int .i64 c.2] 59)).alloc (.cells #[.int .i64 p.1, .int .i64 p.2] 59)).alloc (.cells #[.int .i64 a.1, .int .i64 a.2, .int .i64 b.1, .int .i64 b.2, .int .i64 c.1, .int .i64 c.2, .int .i64 p.1, .int .i64 p.2] 59)) := (Below.refl _ _).alloc (Nat.le_refl _) _
    replace Ka := hide ((unhide Ka).later al)
    replace Kb := hide ((unhide Kb).later al)
    replace Kc := hide ((unhide Kc).later al)
    replace Kp := hide ((unhide Kp).later al)
    replace BW := hide (below_on (unhide BW) al)
    clear al
    go_enter Try.func40, Try.ntmps40
    go_wp2_with fail
    refine (ptsS _ 4 4 [a, b, c, p] _ (unhide C3) rfl (by unfold maxLen; omega)).mono ?_
    rintro e w1 ⟨rfl, hb⟩
    replace Ka := hide ((unhide Ka).later hb)
    replace Kb := hide ((unhide Kb).later hb)
    replace Kc := hide ((unhide Kc).later hb)
    replace Kp := hide ((unhide Kp).later hb)
    replace BW := hide (below_on (unhide BW) hb)
    clear hb
    clear C3
    rw [unhide HG]
    clear Ka Kb Kc Kp
    go_wp2_with fail
    go_ret2
    exact ⟨rfl, unhide BW⟩
  · have na : Near a := near_of (List.all_eq_true.1 hg a (by simp))
    have nb : Near b := near_of (List.all_eq_true.1 hg b (by simp))
    have nc : Near c := near_of (List.all_eq_true.1 hg c (by simp))
    have np : Near p := near_of (List.all_eq_true.1 hg p (by simp))
    have C0 := hide (fun w => orientS8 a b c w na nb nc)
    have C1 := hide (fun w => inS11 a b c p w na nb nc np)
    have e0 : itB a b c p = !(sgZ (crs a b c) == 0) := by unfold itB; rw [hg]; rfl
    have e1 : itV a b c p = (!(sgZ (crs a b c) == 0) && inT a b c p) := by unfold itV; rw [e0]
    rw [e0, e1]
    clear e0 e1 na nb nc np
    generalize sgZ (crs a b c) = k at *
    generalize inT a b c p = v at *
    have HG := hide hg
    clear hg
    have BW : Hid (Below w.heap.size w w) := hide (Below.refl _ _)
    have al : Below w.heap.size w ((((w.alloc (.cells #[.int .i64 a.1, .int .i64 a.2] 59)).alloc (.cells #[.int .i64 b.1, .int .i64 b.2] 59)).alloc (.cells #[.int .i64 c.1, .int .i64 c.2] 59)).alloc (.cells #[.int .i64 p.1, .int .i64 p.2] 59)) := (((((Below.refl _ _).alloc (Nat.le_refl _) _).alloc (by simp) _).alloc (by simp; omega) _).alloc (by simp; omega) _)
    replace BW := hide (below_on (unhide BW) al)
    clear al
    have Ka : Hid (BxP ((((w.alloc (.cells #[.int .i64 a.1, .int .i64 a.2] 59)).alloc (.cells #[.int .i64 b.1, .int .i64 b.2] 59)).alloc (.cells #[.int .i64 c.1, .int .i64 c.2] 59)).alloc (.cells #[.int .i64 p.1, .int .i64 p.2] 59)) (w.heap.size) a.1 a.2) := hide (((((BxP.new (w := w) (x := a.1) (y := a.2) (t := 59)).later ((Below.refl _ _).alloc (Nat.le_refl _) _)).later ((Below.refl _ _).alloc (Nat.le_refl _) _)).later ((Below.refl _ _).alloc (Nat.le_refl _) _)))
    have zz : (w.alloc (.cells #[.int .i64 a.1, .int .i64 a.2] 59)).heap.size = w.heap.size + 1 := by simp
    have Kb : Hid (BxP ((((w.alloc (.cells #[.int .i64 a.1, .int .i64 a.2] 59)).alloc (.cells #[.int .i64 b.1, .int .i64 b.2] 59)).alloc (.cells #[.int .i64 c.1, .int .i64 c.2] 59)).alloc (.cells #[.int .i64 p.1, .int .i64 p.2] 59)) (w.heap.size + 1) b.1 b.2) := hide (zz ▸ (((BxP.new (w := (w.alloc (.cells #[.int .i64 a.1, .int .i64 a.2] 59))) (x := b.1) (y := b.2) (t := 59)).later ((Below.refl _ _).alloc (Nat.le_refl _) _)).later ((Below.refl _ _).alloc (Nat.le_refl _) _)))
    clear zz
    have zz : ((w.alloc (.cells #[.int .i64 a.1, .int .i64 a.2] 59)).alloc (.cells #[.int .i64 b.1, .int .i64 b.2] 59)).heap.size = w.heap.size + 1 + 1 := by simp
    have Kc : Hid (BxP ((((w.alloc (.cells #[.int .i64 a.1, .int .i64 a.2] 59)).alloc (.cells #[.int .i64 b.1, .int .i64 b.2] 59)).alloc (.cells #[.int .i64 c.1, .int .i64 c.2] 59)).alloc (.cells #[.int .i64 p.1, .int .i64 p.2] 59)) (w.heap.size + 1 + 1) c.1 c.2) := hide (zz ▸ ((BxP.new (w := ((w.alloc (.cells #[.int .i64 a.1, .int .i64 a.2] 59)).alloc (.cells #[.int .i64 b.1, .int .i64 b.2] 59))) (x := c.1) (y := c.2) (t := 59)).later ((Below.refl _ _).alloc (Nat.le_refl _) _)))
    clear zz
    have zz : (((w.alloc (.cells #[.int .i64 a.1, .int .i64 a.2] 59)).alloc (.cells #[.int .i64 b.1, .int .i64 b.2] 59)).alloc (.cells #[.int .i64 c.1, .int .i64 c.2] 59)).heap.size = w.heap.size + 1 + 1 + 1 := by simp
    have Kp : Hid (BxP ((((w.alloc (.cells #[.int .i64 a.1, .int .i64 a.2] 59)).alloc (.cells #[.int .i64 b.1, .int .i64 b.2] 59)).alloc (.cells #[.int .i64 c.1, .int .i64 c.2] 59)).alloc (.cells #[.int .i64 p.1, .int .i64 p.2] 59)) (w.heap.size + 1 + 1 + 1) p.1 p.2) := hide (zz ▸ (BxP.new (w := (((w.alloc (.cells #[.int .i64 a.1, .int .i64 a.2] 59)).alloc (.cells #[.int .i64 b.1, .int .i64 b.2] 59)).alloc (.cells #[.int .i64 c.1, .int .i64 c.2] 59))) (x := p.1) (y := p.2) (t := 59)))
    clear zz
    have C3 : Hid (SlP (((((w.alloc (.cells #[.int .i64 a.1, .int .i64 a.2] 59)).alloc (.cells #[.int .i64 b.1, .int .i64 b.2] 59)).alloc (.cells #[.int .i64 c.1, .int .i64 c.2] 59)).alloc (.cells #[.int .i64 p.1, .int .i64 p.2] 59)).alloc (.cells #[.int .i64 a.1, .int .i64 a.2, .int .i64 b.1, .int .i64 b.2, .int .i64 c.1, .int .i64 c.2, .int .i64 p.1, .int .i64 p.2] 59)) (some ⟨w.heap.size + 1 + 1 + 1 + 1, 0, none⟩) [a, b, c, p]) := hide (by have k := cellsP4 ((((w.alloc (.cells #[.int .i64 a.1, .int .i64 a.2] 59)).alloc (.cells #[.int .i64 b.1, .int .i64 b.2] 59)).alloc (.cells #[.int .i64 c.1, .int .i64 c.2] 59)).alloc (.cells #[.int .i64 p.1, .int .i64 p.2] 59)) a b c p; rw [show ((((w.alloc (.cells #[.int .i64 a.1, .int .i64 a.2] 59)).alloc (.cells #[.int .i64 b.1, .int .i64 b.2] 59)).alloc (.cells #[.int .i64 c.1, .int .i64 c.2] 59)).alloc (.cells #[.int .i64 p.1, .int .i64 p.2] 59)).heap.size = w.heap.size + 1 + 1 + 1 + 1 by simp] at k; exact k)
    have al : Below ((((w.alloc (.cells #[.int .i64 a.1, .int .i64 a.2] 59)).alloc (.cells #[.int .i64 b.1, .int .i64 b.2] 59)).alloc (.cells #[.int .i64 c.1, .int .i64 c.2] 59)).alloc (.cells #[.int .i64 p.1, .int .i64 p.2] 59)).heap.size ((((w.alloc (.cells #[.int .i64 a.1, .int .i64 a.2] 59)).alloc (.cells #[.int .i64 b.1, .int .i64 b.2] 59)).alloc (.cells #[.int .i64 c.1, .int .i64 c.2] 59)).alloc (.cells #[.int .i64 p.1, .int .i64 p.2] 59)) (((((w.alloc (.cells #[.int .i64 a.1, .int .i64 a.2] 59)).alloc (.cells #[.int .i64 b.1, .int .i64 b.2] 59)).alloc (.cells #[.int .i64 c.1, .int .i64 c.2] 59)).alloc (.cells #[.int .i64 p.1, .int .i64 p.2] 59)).alloc (.cells #[.int .i64 a.1, .int .i64 a.2, .int .i64 b.1, .int .i64 b.2, .int .i64 c.1, .int .i64 c.2, .int .i64 p.1, .int .i64 p.2] 59)) := (Below.refl _ _).alloc (Nat.le_refl _) _
    replace Ka := hide ((unhide Ka).later al)
    replace Kb := hide ((unhide Kb).later al)
    replace Kc := hide ((unhide Kc).later al)
    replace Kp := hide ((unhide Kp).later al)
    replace BW := hide (below_on (unhide BW) al)
    clear al
    go_enter Try.func40, Try.ntmps40
    go_wp2_with fail
    refine (ptsS _ 4 4 [a, b, c, p] _ (unhide C3) rfl (by unfold maxLen; omega)).mono ?_
    rintro e w2 ⟨rfl, hb⟩
    replace Ka := hide ((unhide Ka).later hb)
    replace Kb := hide ((unhide Kb).later hb)
    replace Kc := hide ((unhide Kc).later hb)
    replace Kp := hide ((unhide Kp).later hb)
    replace BW := hide (below_on (unhide BW) hb)
    clear hb
    clear C3
    rw [unhide HG]
    have Ka_0 := (unhide Ka).c0
    have Ka_1 := (unhide Ka).c1
    have Kb_0 := (unhide Kb).c0
    have Kb_1 := (unhide Kb).c1
    have Kc_0 := (unhide Kc).c0
    have Kc_1 := (unhide Kc).c1
    go_wp2_with fail
    refine (unhide C0 _).mono ?_
    rintro e w3 ⟨rfl, hb⟩
    clear Ka_0 Ka_1 Kb_0 Kb_1 Kc_0 Kc_1
    replace Ka := hide ((unhide Ka).later hb)
    replace Kb := hide ((unhide Kb).later hb)
    replace Kc := hide ((unhide Kc).later hb)
    replace Kp := hide ((unhide Kp).later hb)
    replace BW := hide (below_on (unhide BW) hb)
    clear hb
    clear C0
    cases hk : (k == 0)
    · skip
      have Ka_0 := (unhide Ka).c0
      have Ka_1 := (unhide Ka).c1
      have Kb_0 := (unhide Kb).c0
      have Kb_1 := (unhide Kb).c1
      have Kc_0 := (unhide Kc).c0
      have Kc_1 := (unhide Kc).c1
      have Kp_0 := (unhide Kp).c0
      have Kp_1 := (unhide Kp).c1
      go_wp2_with fail
      refine (unhide C1 _).mono ?_
      rintro e w4 ⟨rfl, hb⟩
      clear Ka_0 Ka_1 Kb_0 Kb_1 Kc_0 Kc_1 Kp_0 Kp_1
      replace Ka := hide ((unhide Ka).later hb)
      replace Kb := hide ((unhide Kb).later hb)
      replace Kc := hide ((unhide Kc).later hb)
      replace Kp := hide ((unhide Kp).later hb)
      replace BW := hide (below_on (unhide BW) hb)
      clear hb
      clear Ka Kb Kc Kp
      go_wp2_with fail
      go_ret2
      exact ⟨by simp only [hk]; rfl, unhide BW⟩
    · skip
      clear Ka Kb Kc Kp
      go_wp2_with fail
      go_ret2
      exact ⟨by simp only [hk]; rfl, unhide BW⟩
/-- The numbers from 0 on. -/
def upI (n : Nat) : List Int := (List.range n).map (fun k : Nat => (k : Int))
theorem upI_len (n : Nat) : (upI n).length = n := by simp [upI]
theorem upI_succ (n : Nat) : upI (n + 1) = upI n ++ [(n : Int)] := by simp [upI, List.range_succ]
set_option maxHeartbeats 4000000 in
theorem allS (a : Option Addr) (n c : Nat) (w : World) (h1 : n ≤ 1048576) :
    Calls Try.prog 62 #[.slice a n c] w fun e w' => ∃ v, e = .returned v ∧ Below w.heap.size w w' ∧ RwI w.heap.size w' v (upI n) := by
  obtain ⟨i0, hi, hz0, hz1, hz2⟩ := info_parts Try.info3
  go_enter Try.func62, Try.ntmps62
  go_wp2
  go_loopw [3, 7] (fun v iv wr => ∃ i : Nat, i ≤ n ∧ iv = .int .i64 i ∧ Hid (RwI w.heap.size wr v (upI i)) ∧ Hid (Below w.heap.size w wr)) (fun _ iv _ => n - (intOf iv).toNat)
  case atStart => exact ⟨0, Nat.zero_le _, rfl, hide (RwI.nil _ _), hide (Below.refl _ _)⟩
  case round =>
    obtain ⟨i, hi', rfl, HR, HB⟩ := hrel
    by_cases hlt : i < n
    · have hlt' : (i : Int) < (n : Int) := by omega
      have LI := upI_len i
      go_wp2_with (at_builtin; refine wpList_append_own _ rfl (.tmp 10) (.tmp 12) 25 rfl w.heap.size 3 i0 (.int .i64 0) 1 8 Try.underlying25 hi hz0 hz1 hz2 rfl (by decide) _ _ _ rfl ((unhide HR).row.alloc _) ⟨_, 0, none⟩ 1 1 [.int .i64 (i : Int)] rfl rfl (new_cellI _ _) (fun u hu => by simp at hu; subst hu; rfl) (by unfold maxLen; omega) (by omega) (by have := (unhide HB).size; simp; omega) ?_)
      intro v' w6 hown hgr _
      have RN : Hid (RwI w.heap.size w6 v' (upI (i + 1))) := hide (by rw [upI_succ]; exact RwI.snoc (by rw [LI]; exact hown))
      have HBN := hide (owns_belowR (unhide HB) (unhide HB).size (unhide HR).row hgr)
      clear hown hgr HR
      go_wp2
      go_roundw
      case rel => exact ⟨i + 1, by omega, by go_num, RN, HBN⟩
      case measure => simp [intOf]; omega
    · obtain rfl : i = n := by omega
      go_wp2
      go_ret
      exact ⟨_, rfl, unhide HB, unhide HR⟩
theorem aroundS (a : Option Addr) (n c : Nat) (L : List Int) (i : Nat) (w : World) (h : Sl w a L) (hn : L.length = n) (hi : i < n) (h1 : n ≤ 1048576) :
    Calls Try.prog 94 #[.slice a n c, .int .i64 i] w fun e w' => e = .returned (.tuple #[.int .i64 (L.getD ((i + n - 1) % n) 0), .int .i64 (L.getD ((i + 1) % n) 0)]) ∧ Below w.heap.size w w' := by
  rcases h with e | ⟨b, off, rfl, hb, hc⟩
  · subst e; simp at hn; omega
  have np : 0 < n := by omega
  obtain ⟨j, hj⟩ : ∃ j, j = (i + n - 1) % n := ⟨_, rfl⟩
  obtain ⟨k, hk⟩ : ∃ k, k = (i + 1) % n := ⟨_, rfl⟩
  have jl : j < n := by rw [hj]; exact Nat.mod_lt _ np
  have kl : k < n := by rw [hk]; exact Nat.mod_lt _ np
  have E0 := hc j (by omega)
  have E1 := hc k (by omega)
  rw [← hj, ← hk]
  generalize L.getD j 0 = x at *
  generalize L.getD k 0 = y at *
  have d1 : IntKind.i64.wrap ((i : Int) + (n : Int)) = (i : Int) + (n : Int) := by rw [IntKind.wrap_i64]; omega
  have d2 : IntKind.i64.wrap ((i : Int) + (n : Int) - 1) = (i : Int) + (n : Int) - 1 := by rw [IntKind.wrap_i64]; omega
  have d3 : IntKind.i64.wrap ((i : Int) + 1) = (i : Int) + 1 := by rw [IntKind.wrap_i64]; omega
  have j1 : ((i : Int) + (n : Int) - 1).tmod (n : Int) = (j : Int) := by rw [hj, show (i : Int) + (n : Int) - 1 = ((i + n - 1 : Nat) : Int) by omega]; rfl
  have j2 : ((i : Int) + (n : Int) - 1) % (n : Int) = (j : Int) := by rw [hj, show (i : Int) + (n : Int) - 1 = ((i + n - 1 : Nat) : Int) by omega]; rfl
  have k1 : ((i : Int) + 1).tmod (n : Int) = (k : Int) := by rw [hk, ← Int.natCast_one, ← Int.natCast_add]; rfl
  have k2 : ((i : Int) + 1) % (n : Int) = (k : Int) := by rw [hk, ← Int.natCast_one, ← Int.natCast_add]; rfl
  have wj : IntKind.i64.wrap (j : Int) = (j : Int) := by rw [IntKind.wrap_i64]; omega
  have wk : IntKind.i64.wrap (k : Int) = (k : Int) := by rw [IntKind.wrap_i64]; omega
  have jl' : (j : Int) < (n : Int) := by omega
  have kl' : (k : Int) < (n : Int) := by omega
  have j0 : (0 : Int) ≤ (j : Int) := by omega
  have k0 : (0 : Int) ≤ (k : Int) := by omega
  have nz2 : (n : Int) ≠ 0 := by omega
  have nz3 : ¬ (n = 0) := by omega
  have nz4 : ¬ ((n : Int) = -1) := by omega
  clear hj hk hc hn
  go_enter Try.func94, Try.ntmps94
  go_wp2
  go_region
  go_wp2
  go_ret2
  exact ⟨rfl, (Below.refl _ _).drew⟩
end Go.Proofs.Ytblhjeepelgdaaa
namespace Go.Proofs.Ytblhjeepelgdaaa
open Go.RowKit
set_option linter.unusedVariables false
set_option maxRecDepth 100000
set_option linter.unusedSimpArgs false

def cI (L : List Nat) : List Int := L.map (fun k : Nat => (k : Int))
theorem cI_len (L : List Nat) : (cI L).length = L.length := by simp [cI]
theorem cI_at (L : List Nat) (i : Nat) : (cI L).getD i 0 = ((L.getD i 0 : Nat) : Int) := by
  unfold cI
  by_cases h : i < L.length
  · simp [List.getD_eq_getElem?_getD, h]
  · simp [List.getD_eq_getElem?_getD, h]
def bef (L : List Nat) (i : Nat) : Nat := L.getD ((i + L.length - 1) % L.length) 0
def aft (L : List Nat) (i : Nat) : Nat := L.getD ((i + 1) % L.length) 0
def okE (l : List (Int × Int)) (a b c k : Nat) : Bool := k == a || k == b || k == c || !inT (l.getD a (0, 0)) (l.getD b (0, 0)) (l.getD c (0, 0)) (l.getD k (0, 0))
/-- One of the corners left is an ear. -/
def earB (l : List (Int × Int)) (L : List Nat) (i : Nat) (t : Int) : Bool :=
  (sgZ (crs (l.getD (bef L i) (0, 0)) (l.getD (L.getD i 0) (0, 0)) (l.getD (aft L i) (0, 0))) == t) && L.all (okE l (bef L i) (L.getD i 0) (aft L i))
theorem mem_at {L : List Nat} {i : Nat} (h : i < L.length) : L.getD i 0 ∈ L := by
  rw [List.getD_eq_getElem?_getD, List.getElem?_eq_getElem h]
  exact List.getElem_mem h
theorem bef_mem {L : List Nat} {i : Nat} (h : i < L.length) : bef L i ∈ L := mem_at (Nat.mod_lt _ (by omega))
theorem aft_mem {L : List Nat} {i : Nat} (h : i < L.length) : aft L i ∈ L := mem_at (Nat.mod_lt _ (by omega))
theorem near_at {l : List (Int × Int)} {k : Nat} (hg : ∀ p ∈ l, Near p) (h : k < l.length) : Near (l.getD k (0, 0)) := by
  rw [List.getD_eq_getElem?_getD, List.getElem?_eq_getElem h]
  exact hg _ (List.getElem_mem h)
set_option maxHeartbeats 8000000 in
theorem earS (al ai : Option Addr) (n c m d : Nat) (l : List (Int × Int)) (L : List Nat) (i : Nat) (t : Int) (w : World) (h : SlP w al l) (hn : l.length = n) (h' : Sl w ai (cI L)) (hm : L.length = m) (hi : i < m) (h1 : n ≤ 1048576) (h2 : m ≤ 1048576) (hg : ∀ p ∈ l, Near p) (hL : ∀ k ∈ L, k < n) :
    Calls Try.prog 63 #[.slice al n c, .slice ai m d, .int .i64 i, .int .i64 t] w fun e w' => e = .returned (.bool (earB l L i t)) ∧ Below w.heap.size w w' := by
  subst hm
  have C1 := hide (fun w (k : Sl w ai (cI L)) => aroundS ai L.length d (cI L) i w k (cI_len L) hi h2)
  rw [cI_at, cI_at] at C1
  change Hid (∀ w, Sl w ai (cI L) → Calls _ _ _ w fun e w' => e = .returned (.tuple #[.int .i64 ((bef L i : Nat) : Int), .int .i64 ((aft L i : Nat) : Int)]) ∧ _) at C1
  have aL := hL _ (bef_mem hi)
  have bL := hL _ (mem_at hi)
  have cL := hL _ (aft_mem hi)
  rcases h with e | ⟨q, off, rfl, hq, hc⟩
  · subst e; simp at hn; omega
  have HC : Hid (∀ k, k < n → w.cell? ⟨q, off + k * 2, none⟩ = some (.int .i64 (l.getD k (0, 0)).1) ∧ w.cell? ⟨q, off + k * 2 + 1, none⟩ = some (.int .i64 (l.getD k (0, 0)).2)) := hide (fun k hk => by
    have := hc k (by omega)
    rw [List.getD_eq_getElem?_getD, List.getElem?_eq_getElem (by omega)]
    exact this)
  have NA := near_at hg (show bef L i < l.length by omega)
  have NB := near_at hg (show L.getD i 0 < l.length by omega)
  have NC := near_at hg (show aft L i < l.length by omega)
  have C2 := hide (fun w => orientS8 _ _ _ w NA NB NC)
  have C3 := hide (fun k (hk : k < n) w => inS11 _ _ _ _ w NA NB NC (near_at hg (show k < l.length by omega)))
  rcases h' with e | ⟨r, of2, rfl, hr, hd⟩
  · have := cI_len L; rw [e] at this; simp at this; omega
  have HS : Hid (Sl w (some ⟨r, of2, none⟩) (cI L)) := hide (.inr ⟨r, of2, rfl, hr, hd⟩)
  have HD : Hid (∀ k, k < L.length → w.cell? ⟨r, of2 + k, none⟩ = some (.int .i64 ((L.getD k 0 : Nat) : Int))) := hide (fun k hk => by rw [← cI_at]; exact hd k (by rw [cI_len]; exact hk))
  have HL : Hid (∀ k ∈ L, k < n) := hide hL
  have EV : Hid (∀ v, earB l L i t = v ↔ ((sgZ (crs (l.getD (bef L i) (0, 0)) (l.getD (L.getD i 0) (0, 0)) (l.getD (aft L i) (0, 0))) == t) && L.all (okE l (bef L i) (L.getD i 0) (aft L i))) = v) := hide (fun v => Iff.rfl)
  have OK : Hid (∀ k, okE l (bef L i) (L.getD i 0) (aft L i) k = (k == bef L i || k == L.getD i 0 || k == aft L i || !inT (l.getD (bef L i) (0, 0)) (l.getD (L.getD i 0) (0, 0)) (l.getD (aft L i) (0, 0)) (l.getD k (0, 0)))) := hide (fun k => rfl)
  have A_ := unhide HC _ aL
  have B_ := unhide HC _ bL
  have C_ := unhide HC _ cL
  have I0 := unhide HD i hi
  generalize okE l (bef L i) (L.getD i 0) (aft L i) = ok at *
  generalize earB l L i t = EB at *
  generalize hpa : l.getD (bef L i) (0, 0) = pa at *
  generalize hpb : l.getD (L.getD i 0) (0, 0) = pb at *
  generalize hpc : l.getD (aft L i) (0, 0) = pc at *
  generalize bef L i = a at *
  generalize L.getD i 0 = b at *
  generalize aft L i = cc at *
  generalize sgZ (crs pa pb pc) = s at *
  clear hpa hpb hpc NA NB NC hc hd hg hL hn
  have aL' : (a : Int) < (n : Int) := by omega
  have bL' : (b : Int) < (n : Int) := by omega
  have cL' : (cc : Int) < (n : Int) := by omega
  have hi' : (i : Int) < (L.length : Int) := by omega
  have HI := hide I0
  have HA := hide (And.intro A_ (And.intro B_ C_))
  clear I0 A_ B_ C_
  generalize hm : L.length = m at *
  go_enter Try.func63, Try.ntmps63
  go_wp2_with fail
  refine (unhide C1 _ (unhide HS)).mono ?_
  rintro e w1 ⟨rfl, hb⟩
  have HB := hide hb
  have I0 : w1.cell? ⟨r, of2 + i, none⟩ = some (.int .i64 (b : Int)) := (hb.cell (p := ⟨r, of2 + i, none⟩) hr).trans (unhide HI)
  have A0 : w1.cell? ⟨q, off + a * 2, none⟩ = some (.int .i64 pa.1) := (hb.cell (p := ⟨q, off + a * 2, none⟩) hq).trans (unhide HA).1.1
  have A1 : w1.cell? ⟨q, off + a * 2 + 1, none⟩ = some (.int .i64 pa.2) := (hb.cell (p := ⟨q, off + a * 2 + 1, none⟩) hq).trans (unhide HA).1.2
  have B0 : w1.cell? ⟨q, off + b * 2, none⟩ = some (.int .i64 pb.1) := (hb.cell (p := ⟨q, off + b * 2, none⟩) hq).trans (unhide HA).2.1.1
  have B1 : w1.cell? ⟨q, off + b * 2 + 1, none⟩ = some (.int .i64 pb.2) := (hb.cell (p := ⟨q, off + b * 2 + 1, none⟩) hq).trans (unhide HA).2.1.2
  have C0 : w1.cell? ⟨q, off + cc * 2, none⟩ = some (.int .i64 pc.1) := (hb.cell (p := ⟨q, off + cc * 2, none⟩) hq).trans (unhide HA).2.2.1
  have C1' : w1.cell? ⟨q, off + cc * 2 + 1, none⟩ = some (.int .i64 pc.2) := (hb.cell (p := ⟨q, off + cc * 2 + 1, none⟩) hq).trans (unhide HA).2.2.2
  clear hb C1 HS HI
  go_upto_region 3 with fail
  clear I0
  go_region_held3 (fun w' => w'.cell? ⟨q, off + a * 2, none⟩ = some (.int .i64 pa.1) ∧ w'.cell? ⟨q, off + a * 2 + 1, none⟩ = some (.int .i64 pa.2) ∧ w'.cell? ⟨q, off + b * 2, none⟩ = some (.int .i64 pb.1) ∧ w'.cell? ⟨q, off + b * 2 + 1, none⟩ = some (.int .i64 pb.2) ∧ w'.cell? ⟨q, off + cc * 2, none⟩ = some (.int .i64 pc.1) ∧ w'.cell? ⟨q, off + cc * 2 + 1, none⟩ = some (.int .i64 pc.2))
    (with_reducible (first | exact ⟨A0, A1, B0, B1, C0, C1'⟩ | exact ⟨cdP A0, cdP A1, cdP B0, cdP B1, cdP C0, cdP C1'⟩ | fail))
    (first
    | (go_at_call 72; refine (unhide C2 _).mono ?_; rintro e w2 ⟨rfl, hb1⟩; have hbx := below_of_drew hb1; replace A0 := cell_later hbx A0; replace A1 := cell_later hbx A1; replace B0 := cell_later hbx B0; replace B1 := cell_later hbx B1; replace C0 := cell_later hbx C0; replace C1' := cell_later hbx C1'; replace HB := hide (below_on (unhide HB) hbx); clear hb1 hbx)
    | fail)
  clear A0 A1 B0 B1 C0 C1' C2
  by_cases hs : s = t
  · have ds : (s != t) = false := by simp [hs]
    replace EV : Hid (EB = L.all ok) := hide (by have := (unhide EV _).2 rfl; rw [this]; simp [hs])
    clear hs
    rw [ds]
    clear ds
    go_wp2
    go_loopw [41] (fun jv wr => ∃ j : Nat, j ≤ m ∧ jv = .int .i64 j ∧ Hid (∀ x ∈ L.take j, ok x = true) ∧ Hid (Below w.heap.size w wr)) (fun jv _ => m - (intOf jv).toNat)
    case atStart => exact ⟨0, Nat.zero_le _, rfl, hide (by simp), HB⟩
    case round =>
      clear HB
      obtain ⟨j, hj, rfl, HT, HB⟩ := hrel
      by_cases hlt : j < m
      · have hlt' : (j : Int) < (m : Int) := by omega
        have D0 : wr.cell? ⟨r, of2 + j, none⟩ = some (.int .i64 ((L.getD j 0 : Nat) : Int)) := ((unhide HB).cell (p := ⟨r, of2 + j, none⟩) hr).trans (unhide HD j hlt)
        have mk := mem_at (L := L) (i := j) (by omega)
        have kL := unhide HL _ mk
        have NX : Hid (ok (L.getD j 0) = true → ∀ x ∈ L.take (j + 1), ok x = true) := hide (fun hk x hx => by
          rw [List.take_succ_eq_append_getElem (by omega), List.mem_append] at hx
          rcases hx with hx | hx
          · exact unhide HT x hx
          · simp at hx; subst hx; rw [List.getD_eq_getElem?_getD, List.getElem?_eq_getElem (by omega)] at hk; exact hk)
        have NO : Hid (ok (L.getD j 0) = false → EB = false) := hide (fun hk => by
          rw [unhide EV, List.all_eq_false]
          exact ⟨_, mk, fun e => by rw [hk] at e; cases e⟩)
        have OKK := unhide OK (L.getD j 0)
        have CI := hide (fun w => unhide C3 (L.getD j 0) kL w)
        have K_ := unhide HC (L.getD j 0) kL
        generalize l.getD (L.getD j 0) (0, 0) = pk at *
        generalize L.getD j 0 = k at *
        have kL' : (k : Int) < (n : Int) := by omega
        clear mk HT
        generalize inT pa pb pc pk = iv at *
        have go1 : ∀ x y : Nat, x = y → ((x : Int) != (y : Int)) = false := fun x y e => by simp [e]
        have go2 : ∀ x y : Nat, x ≠ y → ((x : Int) != (y : Int)) = true ∧ (x != y) = true ∧ (x == y) = false ∧ decide (x = y) = false ∧ ((x : Int) == (y : Int)) = false := fun x y e => ⟨by simp; omega, by simp [e], by simp [e], by simp [e], by simp; omega⟩
        have GG := hide (And.intro go1 go2)
        clear go1 go2
        by_cases ha : k = a
        · have q1 := (unhide GG).1 _ _ ha
          have HN := hide (unhide NX (by rw [OKK]; simp [ha]))
          subst ha
          clear OKK NX NO CI GG HA K_
          go_upto_region 8 with fail
          clear D0
          go_quiet (fail)
          go_wp2
          go_roundw
          case rel => exact ⟨j + 1, by omega, by go_num, HN, hide (below_drewN (unhide HB) _)⟩
          case measure => simp [intOf]; omega
        obtain ⟨q1, q1b, q1c, q1d, q1e⟩ := (unhide GG).2 _ _ ha
        by_cases hb' : k = b
        · have q2 := (unhide GG).1 _ _ hb'
          have HN := hide (unhide NX (by rw [OKK]; simp [hb']))
          subst hb'
          clear OKK NX NO CI GG HA K_
          go_upto_region 8 with fail
          clear D0
          go_quiet (fail)
          go_wp2
          go_roundw
          case rel => exact ⟨j + 1, by omega, by go_num, HN, hide (below_drewN (unhide HB) _)⟩
          case measure => simp [intOf]; omega
        obtain ⟨q2, q2b, q2c, q2d, q2e⟩ := (unhide GG).2 _ _ hb'
        by_cases hc' : k = cc
        · have q3 := (unhide GG).1 _ _ hc'
          have HN := hide (unhide NX (by rw [OKK]; simp [hc']))
          subst hc'
          clear OKK NX NO CI GG HA K_
          go_upto_region 8 with fail
          clear D0
          go_quiet (fail)
          go_wp2
          go_roundw
          case rel => exact ⟨j + 1, by omega, by go_num, HN, hide (below_drewN (unhide HB) _)⟩
          case measure => simp [intOf]; omega
        obtain ⟨q3, q3b, q3c, q3d, q3e⟩ := (unhide GG).2 _ _ hc'
        have A0 : wr.cell? ⟨q, off + a * 2, none⟩ = some (.int .i64 pa.1) := ((unhide HB).cell (p := ⟨q, off + a * 2, none⟩) hq).trans (unhide HA).1.1
        have A1 : wr.cell? ⟨q, off + a * 2 + 1, none⟩ = some (.int .i64 pa.2) := ((unhide HB).cell (p := ⟨q, off + a * 2 + 1, none⟩) hq).trans (unhide HA).1.2
        have B0 : wr.cell? ⟨q, off + b * 2, none⟩ = some (.int .i64 pb.1) := ((unhide HB).cell (p := ⟨q, off + b * 2, none⟩) hq).trans (unhide HA).2.1.1
        have B1 : wr.cell? ⟨q, off + b * 2 + 1, none⟩ = some (.int .i64 pb.2) := ((unhide HB).cell (p := ⟨q, off + b * 2 + 1, none⟩) hq).trans (unhide HA).2.1.2
        have C0 : wr.cell? ⟨q, off + cc * 2, none⟩ = some (.int .i64 pc.1) := ((unhide HB).cell (p := ⟨q, off + cc * 2, none⟩) hq).trans (unhide HA).2.2.1
        have C1 : wr.cell? ⟨q, off + cc * 2 + 1, none⟩ = some (.int .i64 pc.2) := ((unhide HB).cell (p := ⟨q, off + cc * 2 + 1, none⟩) hq).trans (unhide HA).2.2.2
        have K0 : wr.cell? ⟨q, off + k * 2, none⟩ = some (.int .i64 pk.1) := ((unhide HB).cell (p := ⟨q, off + k * 2, none⟩) hq).trans K_.1
        have K1 : wr.cell? ⟨q, off + k * 2 + 1, none⟩ = some (.int .i64 pk.2) := ((unhide HB).cell (p := ⟨q, off + k * 2 + 1, none⟩) hq).trans K_.2
        clear K_ HA GG
        cases iv
        · have HN := hide (unhide NX (by rw [OKK]; simp))
          clear OKK NX NO
          go_upto_region 8 with fail
          clear D0
          go_region_held3 (fun w' => w'.cell? ⟨q, off + a * 2, none⟩ = some (.int .i64 pa.1) ∧ w'.cell? ⟨q, off + a * 2 + 1, none⟩ = some (.int .i64 pa.2) ∧ w'.cell? ⟨q, off + b * 2, none⟩ = some (.int .i64 pb.1) ∧ w'.cell? ⟨q, off + b * 2 + 1, none⟩ = some (.int .i64 pb.2) ∧ w'.cell? ⟨q, off + cc * 2, none⟩ = some (.int .i64 pc.1) ∧ w'.cell? ⟨q, off + cc * 2 + 1, none⟩ = some (.int .i64 pc.2) ∧ w'.cell? ⟨q, off + k * 2, none⟩ = some (.int .i64 pk.1) ∧ w'.cell? ⟨q, off + k * 2 + 1, none⟩ = some (.int .i64 pk.2))
            (with_reducible (first | exact ⟨A0, A1, B0, B1, C0, C1, K0, K1⟩ | exact ⟨cdP A0, cdP A1, cdP B0, cdP B1, cdP C0, cdP C1, cdP K0, cdP K1⟩ | fail))
            (first
            | (go_at_call 76; refine (unhide CI _).mono ?_; rintro e w5 ⟨rfl, hb1⟩; have hbx := below_of_drew hb1; replace A0 := cell_later hbx A0; replace A1 := cell_later hbx A1; replace B0 := cell_later hbx B0; replace B1 := cell_later hbx B1; replace C0 := cell_later hbx C0; replace C1 := cell_later hbx C1; replace K0 := cell_later hbx K0; replace K1 := cell_later hbx K1; replace HB := hide (below_on (unhide HB) hbx); clear hb1 hbx)
            | fail)
          clear A0 A1 B0 B1 C0 C1 K0 K1 CI
          go_wp2
          go_roundw
          case rel => exact ⟨j + 1, by omega, by go_num, HN, HB⟩
          case measure => simp [intOf]; omega
        · have HN := hide (unhide NO (by rw [OKK]; simp [ha, hb', hc']))
          clear OKK NX NO
          go_upto_region 8 with fail
          clear D0
          go_region_held3 (fun w' => w'.cell? ⟨q, off + a * 2, none⟩ = some (.int .i64 pa.1) ∧ w'.cell? ⟨q, off + a * 2 + 1, none⟩ = some (.int .i64 pa.2) ∧ w'.cell? ⟨q, off + b * 2, none⟩ = some (.int .i64 pb.1) ∧ w'.cell? ⟨q, off + b * 2 + 1, none⟩ = some (.int .i64 pb.2) ∧ w'.cell? ⟨q, off + cc * 2, none⟩ = some (.int .i64 pc.1) ∧ w'.cell? ⟨q, off + cc * 2 + 1, none⟩ = some (.int .i64 pc.2) ∧ w'.cell? ⟨q, off + k * 2, none⟩ = some (.int .i64 pk.1) ∧ w'.cell? ⟨q, off + k * 2 + 1, none⟩ = some (.int .i64 pk.2))
            (with_reducible (first | exact ⟨A0, A1, B0, B1, C0, C1, K0, K1⟩ | exact ⟨cdP A0, cdP A1, cdP B0, cdP B1, cdP C0, cdP C1, cdP K0, cdP K1⟩ | fail))
            (first
            | (go_at_call 76; refine (unhide CI _).mono ?_; rintro e w5 ⟨rfl, hb1⟩; have hbx := below_of_drew hb1; replace A0 := cell_later hbx A0; replace A1 := cell_later hbx A1; replace B0 := cell_later hbx B0; replace B1 := cell_later hbx B1; replace C0 := cell_later hbx C0; replace C1 := cell_later hbx C1; replace K0 := cell_later hbx K0; replace K1 := cell_later hbx K1; replace HB := hide (below_on (unhide HB) hbx); clear hb1 hbx)
            | fail)
          clear A0 A1 B0 B1 C0 C1 K0 K1 CI
          go_wp2
          go_ret
          exact ⟨by rw [unhide HN]; rfl, unhide HB⟩
      · obtain rfl : j = m := by omega
        have HN : Hid (EB = true) := hide (by
          rw [unhide EV, List.all_eq_true]
          have := unhide HT
          rw [← hm, List.take_length] at this
          exact this)
        go_wp2
        go_ret
        exact ⟨by rw [unhide HN]; rfl, unhide HB⟩
  · have ds : (s != t) = true := by simp [hs]
    have HN : Hid (EB = false) := hide (by have := (unhide EV _).2 rfl; rw [this]; simp [hs])
    go_wp2
    go_ret
    exact ⟨by rw [unhide HN]; rfl, unhide HB⟩
end Go.Proofs.Ytblhjeepelgdaaa
namespace Go.Proofs.Ytblhjeepelgdaaa
open Go.RowKit
set_option linter.unusedVariables false
set_option maxRecDepth 100000
set_option linter.unusedSimpArgs false

theorem crs_three (a b c p : Int × Int) : crs a b p + crs b c p + crs c a p = crs a b c := by unfold crs; grind
theorem sg_cases (k : Int) : (0 < k ∧ sgZ k = 1) ∨ (k = 0 ∧ sgZ k = 0) ∨ (k < 0 ∧ sgZ k = -1) := by
  unfold sgZ
  rcases Int.lt_trichotomy k 0 with h | h | h
  · exact .inr (.inr ⟨h, by rw [if_neg (by omega), if_pos h]⟩)
  · exact .inr (.inl ⟨h, by rw [if_neg (by omega), if_neg (by omega)]⟩)
  · exact .inl ⟨h, by rw [if_pos h]⟩
/-- Beyond none of the sides. -/
theorem inT_eq {a b c p : Int × Int} (h : sgZ (crs a b c) ≠ 0) :
    inT a b c p = (!(sgZ (crs a b p) == -sgZ (crs a b c)) && !(sgZ (crs b c p) == -sgZ (crs a b c)) && !(sgZ (crs c a p) == -sgZ (crs a b c))) := by
  have s := crs_three a b c p
  unfold inT inK
  generalize crs a b p = x at *
  generalize crs b c p = y at *
  generalize crs c a p = z at *
  generalize crs a b c = t at *
  rcases sg_cases x with ⟨h1, e1⟩ | ⟨h1, e1⟩ | ⟨h1, e1⟩ <;> rcases sg_cases y with ⟨h2, e2⟩ | ⟨h2, e2⟩ | ⟨h2, e2⟩ <;> rcases sg_cases z with ⟨h3, e3⟩ | ⟨h3, e3⟩ | ⟨h3, e3⟩ <;> rcases sg_cases t with ⟨h4, e4⟩ | ⟨h4, e4⟩ | ⟨h4, e4⟩ <;> rw [e1, e2, e3, e4] <;> first | rfl | (exfalso; omega) | exact absurd e4 h
set_option maxHeartbeats 4000000 in
theorem inI11 (a b c p : Int × Int) (w : World) (ha : Near a) (hb : Near b) (hc : Near c) (hp : Near p) (ht : sgZ (crs a b c) ≠ 0) :
    Calls Try.prog 79 #[.agg #[.int .i64 a.1, .int .i64 a.2], .agg #[.int .i64 b.1, .int .i64 b.2], .agg #[.int .i64 c.1, .int .i64 c.2], .agg #[.int .i64 p.1, .int .i64 p.2]] w fun e w' => e = .returned (.bool (inT a b c p)) ∧ Below w.heap.size w w' := by
  have C0 := hide (fun w => turnI a b c w ha hb hc)
  have C1 := hide (fun w => turnI a b p w ha hb hp)
  have C2 := hide (fun w => turnI b c p w hb hc hp)
  have C3 := hide (fun w => turnI c a p w hc ha hp)
  rw [inT_eq ht]
  have bt := sg_bd (crs a b c)
  generalize sgZ (crs a b c) = t at *
  generalize sgZ (crs a b p) = x at *
  generalize sgZ (crs b c p) = y at *
  generalize sgZ (crs c a p) = z at *
  obtain ⟨m, hm⟩ : ∃ m, m = -t := ⟨_, rfl⟩
  have wt : IntKind.i64.wrap (-t) = m := by rw [hm, IntKind.wrap_i64]; omega
  rw [← hm]
  clear hm
  clear ha hb hc hp ht bt
  have BW : Hid (Below w.heap.size w w) := hide (Below.refl _ _)
  have al : Below w.heap.size w ((((w.alloc (.cells #[.int .i64 a.1, .int .i64 a.2] 59)).alloc (.cells #[.int .i64 b.1, .int .i64 b.2] 59)).alloc (.cells #[.int .i64 c.1, .int .i64 c.2] 59)).alloc (.cells #[.int .i64 p.1, .int .i64 p.2] 59)) := (((((Below.refl _ _).alloc (Nat.le_refl _) _).alloc (by simp) _).alloc (by simp; omega) _).alloc (by simp; omega) _)
  replace BW := hide (below_on (unhide BW) al)
  clear al
  have Ka : Hid (BxP ((((w.alloc (.cells #[.int .i64 a.1, .int .i64 a.2] 59)).alloc (.cells #[.int .i64 b.1, .int .i64 b.2] 59)).alloc (.cells #[.int .i64 c.1, .int .i64 c.2] 59)).alloc (.cells #[.int .i64 p.1, .int .i64 p.2] 59)) (w.heap.size) a.1 a.2) := hide (((((BxP.new (w := w) (x := a.1) (y := a.2) (t := 59)).later ((Below.refl _ _).alloc (Nat.le_refl _) _)).later ((Below.refl _ _).alloc (Nat.le_refl _) _)).later ((Below.refl _ _).alloc (Nat.le_refl _) _)))
  have zz : (w.alloc (.cells #[.int .i64 a.1, .int .i64 a.2] 59)).heap.size = w.heap.size + 1 := by simp
  have Kb : Hid (BxP ((((w.alloc (.cells #[.int .i64 a.1, .int .i64 a.2] 59)).alloc (.cells #[.int .i64 b.1, .int .i64 b.2] 59)).alloc (.cells #[.int .i64 c.1, .int .i64 c.2] 59)).alloc (.cells #[.int .i64 p.1, .int .i64 p.2] 59)) (w.heap.size + 1) b.1 b.2) := hide (zz ▸ (((BxP.new (w := (w.alloc (.cells #[.int .i64 a.1, .int .i64 a.2] 59))) (x := b.1) (y := b.2) (t := 59)).later ((Below.refl _ _).alloc (Nat.le_refl _) _)).later ((Below.refl _ _).alloc (Nat.le_refl _) _)))
  clear zz
  have zz : ((w.alloc (.cells #[.int .i64 a.1, .int .i64 a.2] 59)).alloc (.cells #[.int .i64 b.1, .int .i64 b.2] 59)).heap.size = w.heap.size + 1 + 1 := by simp
  have Kc : Hid (BxP ((((w.alloc (.cells #[.int .i64 a.1, .int .i64 a.2] 59)).alloc (.cells #[.int .i64 b.1, .int .i64 b.2] 59)).alloc (.cells #[.int .i64 c.1, .int .i64 c.2] 59)).alloc (.cells #[.int .i64 p.1, .int .i64 p.2] 59)) (w.heap.size + 1 + 1) c.1 c.2) := hide (zz ▸ ((BxP.new (w := ((w.alloc (.cells #[.int .i64 a.1, .int .i64 a.2] 59)).alloc (.cells #[.int .i64 b.1, .int .i64 b.2] 59))) (x := c.1) (y := c.2) (t := 59)).later ((Below.refl _ _).alloc (Nat.le_refl _) _)))
  clear zz
  have zz : (((w.alloc (.cells #[.int .i64 a.1, .int .i64 a.2] 59)).alloc (.cells #[.int .i64 b.1, .int .i64 b.2] 59)).alloc (.cells #[.int .i64 c.1, .int .i64 c.2] 59)).heap.size = w.heap.size + 1 + 1 + 1 := by simp
  have Kp : Hid (BxP ((((w.alloc (.cells #[.int .i64 a.1, .int .i64 a.2] 59)).alloc (.cells #[.int .i64 b.1, .int .i64 b.2] 59)).alloc (.cells #[.int .i64 c.1, .int .i64 c.2] 59)).alloc (.cells #[.int .i64 p.1, .int .i64 p.2] 59)) (w.heap.size + 1 + 1 + 1) p.1 p.2) := hide (zz ▸ (BxP.new (w := (((w.alloc (.cells #[.int .i64 a.1, .int .i64 a.2] 59)).alloc (.cells #[.int .i64 b.1, .int .i64 b.2] 59)).alloc (.cells #[.int .i64 c.1, .int .i64 c.2] 59))) (x := p.1) (y := p.2) (t := 59)))
  clear zz
  cases hx : (x == m)
  · have nx : (x != m) = true := by rw [bne, hx]; rfl
    cases hy : (y == m)
    · have ny : (y != m) = true := by rw [bne, hy]; rfl
      cases hz : (z == m)
      · have nz : (z != m) = true := by rw [bne, hz]; rfl
        go_enter Try.func79, Try.ntmps79
        go_upto_region 1 with fail
        generalize ((((w.alloc (.cells #[.int .i64 a.1, .int .i64 a.2] 59)).alloc (.cells #[.int .i64 b.1, .int .i64 b.2] 59)).alloc (.cells #[.int .i64 c.1, .int .i64 c.2] 59)).alloc (.cells #[.int .i64 p.1, .int .i64 p.2] 59)) = w1 at *
        have Ka_0 := (unhide Ka).c0
        have Ka_1 := (unhide Ka).c1
        have Kb_0 := (unhide Kb).c0
        have Kb_1 := (unhide Kb).c1
        have Kc_0 := (unhide Kc).c0
        have Kc_1 := (unhide Kc).c1
        go_wp2_with fail
        refine (unhide C0 _).mono ?_
        rintro e w2 ⟨rfl, hb⟩
        clear Ka_0 Ka_1 Kb_0 Kb_1 Kc_0 Kc_1
        replace Ka := hide ((unhide Ka).later hb)
        replace Kb := hide ((unhide Kb).later hb)
        replace Kc := hide ((unhide Kc).later hb)
        replace Kp := hide ((unhide Kp).later hb)
        replace BW := hide (below_on (unhide BW) hb)
        clear hb
        go_upto_region 2 with fail
        have Ka_0 := (unhide Ka).c0
        have Ka_1 := (unhide Ka).c1
        have Kb_0 := (unhide Kb).c0
        have Kb_1 := (unhide Kb).c1
        have Kp_0 := (unhide Kp).c0
        have Kp_1 := (unhide Kp).c1
        go_wp2_with fail
        refine (unhide C1 _).mono ?_
        rintro e w3 ⟨rfl, hb⟩
        clear Ka_0 Ka_1 Kb_0 Kb_1 Kp_0 Kp_1
        replace Ka := hide ((unhide Ka).later hb)
        replace Kb := hide ((unhide Kb).later hb)
        replace Kc := hide ((unhide Kc).later hb)
        replace Kp := hide ((unhide Kp).later hb)
        replace BW := hide (below_on (unhide BW) hb)
        clear hb
        have Kb_0 := (unhide Kb).c0
        have Kb_1 := (unhide Kb).c1
        have Kc_0 := (unhide Kc).c0
        have Kc_1 := (unhide Kc).c1
        have Kp_0 := (unhide Kp).c0
        have Kp_1 := (unhide Kp).c1
        go_wp2_with fail
        refine (unhide C2 _).mono ?_
        rintro e w4 ⟨rfl, hb⟩
        clear Kb_0 Kb_1 Kc_0 Kc_1 Kp_0 Kp_1
        replace Ka := hide ((unhide Ka).later hb)
        replace Kb := hide ((unhide Kb).later hb)
        replace Kc := hide ((unhide Kc).later hb)
        replace Kp := hide ((unhide Kp).later hb)
        replace BW := hide (below_on (unhide BW) hb)
        clear hb
        have Kc_0 := (unhide Kc).c0
        have Kc_1 := (unhide Kc).c1
        have Ka_0 := (unhide Ka).c0
        have Ka_1 := (unhide Ka).c1
        have Kp_0 := (unhide Kp).c0
        have Kp_1 := (unhide Kp).c1
        go_wp2_with fail
        refine (unhide C3 _).mono ?_
        rintro e w5 ⟨rfl, hb⟩
        clear Kc_0 Kc_1 Ka_0 Ka_1 Kp_0 Kp_1
        replace Ka := hide ((unhide Ka).later hb)
        replace Kb := hide ((unhide Kb).later hb)
        replace Kc := hide ((unhide Kc).later hb)
        replace Kp := hide ((unhide Kp).later hb)
        replace BW := hide (below_on (unhide BW) hb)
        clear hb
        clear Ka Kb Kc Kp
        go_wp2_with fail
        go_ret
        exact ⟨by simp [*], unhide BW⟩
      · have nz : (z != m) = false := by rw [bne, hz]; rfl
        go_enter Try.func79, Try.ntmps79
        go_upto_region 1 with fail
        generalize ((((w.alloc (.cells #[.int .i64 a.1, .int .i64 a.2] 59)).alloc (.cells #[.int .i64 b.1, .int .i64 b.2] 59)).alloc (.cells #[.int .i64 c.1, .int .i64 c.2] 59)).alloc (.cells #[.int .i64 p.1, .int .i64 p.2] 59)) = w6 at *
        have Ka_0 := (unhide Ka).c0
        have Ka_1 := (unhide Ka).c1
        have Kb_0 := (unhide Kb).c0
        have Kb_1 := (unhide Kb).c1
        have Kc_0 := (unhide Kc).c0
        have Kc_1 := (unhide Kc).c1
        go_wp2_with fail
        refine (unhide C0 _).mono ?_
        rintro e w7 ⟨rfl, hb⟩
        clear Ka_0 Ka_1 Kb_0 Kb_1 Kc_0 Kc_1
        replace Ka := hide ((unhide Ka).later hb)
        replace Kb := hide ((unhide Kb).later hb)
        replace Kc := hide ((unhide Kc).later hb)
        replace Kp := hide ((unhide Kp).later hb)
        replace BW := hide (below_on (unhide BW) hb)
        clear hb
        go_upto_region 2 with fail
        have Ka_0 := (unhide Ka).c0
        have Ka_1 := (unhide Ka).c1
        have Kb_0 := (unhide Kb).c0
        have Kb_1 := (unhide Kb).c1
        have Kp_0 := (unhide Kp).c0
        have Kp_1 := (unhide Kp).c1
        go_wp2_with fail
        refine (unhide C1 _).mono ?_
        rintro e w8 ⟨rfl, hb⟩
        clear Ka_0 Ka_1 Kb_0 Kb_1 Kp_0 Kp_1
        replace Ka := hide ((unhide Ka).later hb)
        replace Kb := hide ((unhide Kb).later hb)
        replace Kc := hide ((unhide Kc).later hb)
        replace Kp := hide ((unhide Kp).later hb)
        replace BW := hide (below_on (unhide BW) hb)
        clear hb
        have Kb_0 := (unhide Kb).c0
        have Kb_1 := (unhide Kb).c1
        have Kc_0 := (unhide Kc).c0
        have Kc_1 := (unhide Kc).c1
        have Kp_0 := (unhide Kp).c0
        have Kp_1 := (unhide Kp).c1
        go_wp2_with fail
        refine (unhide C2 _).mono ?_
        rintro e w9 ⟨rfl, hb⟩
        clear Kb_0 Kb_1 Kc_0 Kc_1 Kp_0 Kp_1
        replace Ka := hide ((unhide Ka).later hb)
        replace Kb := hide ((unhide Kb).later hb)
        replace Kc := hide ((unhide Kc).later hb)
        replace Kp := hide ((unhide Kp).later hb)
        replace BW := hide (below_on (unhide BW) hb)
        clear hb
        have Kc_0 := (unhide Kc).c0
        have Kc_1 := (unhide Kc).c1
        have Ka_0 := (unhide Ka).c0
        have Ka_1 := (unhide Ka).c1
        have Kp_0 := (unhide Kp).c0
        have Kp_1 := (unhide Kp).c1
        go_wp2_with fail
        refine (unhide C3 _).mono ?_
        rintro e w10 ⟨rfl, hb⟩
        clear Kc_0 Kc_1 Ka_0 Ka_1 Kp_0 Kp_1
        replace Ka := hide ((unhide Ka).later hb)
        replace Kb := hide ((unhide Kb).later hb)
        replace Kc := hide ((unhide Kc).later hb)
        replace Kp := hide ((unhide Kp).later hb)
        replace BW := hide (below_on (unhide BW) hb)
        clear hb
        clear Ka Kb Kc Kp
        go_wp2_with fail
        go_ret
        exact ⟨by simp [*], unhide BW⟩
    · have ny : (y != m) = false := by rw [bne, hy]; rfl
      go_enter Try.func79, Try.ntmps79
      go_upto_region 1 with fail
      generalize ((((w.alloc (.cells #[.int .i64 a.1, .int .i64 a.2] 59)).alloc (.cells #[.int .i64 b.1, .int .i64 b.2] 59)).alloc (.cells #[.int .i64 c.1, .int .i64 c.2] 59)).alloc (.cells #[.int .i64 p.1, .int .i64 p.2] 59)) = w11 at *
      have Ka_0 := (unhide Ka).c0
      have Ka_1 := (unhide Ka).c1
      have Kb_0 := (unhide Kb).c0
      have Kb_1 := (unhide Kb).c1
      have Kc_0 := (unhide Kc).c0
      have Kc_1 := (unhide Kc).c1
      go_wp2_with fail
      refine (unhide C0 _).mono ?_
      rintro e w12 ⟨rfl, hb⟩
      clear Ka_0 Ka_1 Kb_0 Kb_1 Kc_0 Kc_1
      replace Ka := hide ((unhide Ka).later hb)
      replace Kb := hide ((unhide Kb).later hb)
      replace Kc := hide ((unhide Kc).later hb)
      replace Kp := hide ((unhide Kp).later hb)
      replace BW := hide (below_on (unhide BW) hb)
      clear hb
      go_upto_region 2 with fail
      have Ka_0 := (unhide Ka).c0
      have Ka_1 := (unhide Ka).c1
      have Kb_0 := (unhide Kb).c0
      have Kb_1 := (unhide Kb).c1
      have Kp_0 := (unhide Kp).c0
      have Kp_1 := (unhide Kp).c1
      go_wp2_with fail
      refine (unhide C1 _).mono ?_
      rintro e w13 ⟨rfl, hb⟩
      clear Ka_0 Ka_1 Kb_0 Kb_1 Kp_0 Kp_1
      replace Ka := hide ((unhide Ka).later hb)
      replace Kb := hide ((unhide Kb).later hb)
      replace Kc := hide ((unhide Kc).later hb)
      replace Kp := hide ((unhide Kp).later hb)
      replace BW := hide (below_on (unhide BW) hb)
      clear hb
      have Kb_0 := (unhide Kb).c0
      have Kb_1 := (unhide Kb).c1
      have Kc_0 := (unhide Kc).c0
      have Kc_1 := (unhide Kc).c1
      have Kp_0 := (unhide Kp).c0
      have Kp_1 := (unhide Kp).c1
      go_wp2_with fail
      refine (unhide C2 _).mono ?_
      rintro e w14 ⟨rfl, hb⟩
      clear Kb_0 Kb_1 Kc_0 Kc_1 Kp_0 Kp_1
      replace Ka := hide ((unhide Ka).later hb)
      replace Kb := hide ((unhide Kb).later hb)
      replace Kc := hide ((unhide Kc).later hb)
      replace Kp := hide ((unhide Kp).later hb)
      replace BW := hide (below_on (unhide BW) hb)
      clear hb
      clear Ka Kb Kc Kp
      go_wp2_with fail
      go_ret
      exact ⟨by simp [*], unhide BW⟩
  · have nx : (x != m) = false := by rw [bne, hx]; rfl
    go_enter Try.func79, Try.ntmps79
    go_upto_region 1 with fail
    generalize ((((w.alloc (.cells #[.int .i64 a.1, .int .i64 a.2] 59)).alloc (.cells #[.int .i64 b.1, .int .i64 b.2] 59)).alloc (.cells #[.int .i64 c.1, .int .i64 c.2] 59)).alloc (.cells #[.int .i64 p.1, .int .i64 p.2] 59)) = w15 at *
    have Ka_0 := (unhide Ka).c0
    have Ka_1 := (unhide Ka).c1
    have Kb_0 := (unhide Kb).c0
    have Kb_1 := (unhide Kb).c1
    have Kc_0 := (unhide Kc).c0
    have Kc_1 := (unhide Kc).c1
    go_wp2_with fail
    refine (unhide C0 _).mono ?_
    rintro e w16 ⟨rfl, hb⟩
    clear Ka_0 Ka_1 Kb_0 Kb_1 Kc_0 Kc_1
    replace Ka := hide ((unhide Ka).later hb)
    replace Kb := hide ((unhide Kb).later hb)
    replace Kc := hide ((unhide Kc).later hb)
    replace Kp := hide ((unhide Kp).later hb)
    replace BW := hide (below_on (unhide BW) hb)
    clear hb
    go_upto_region 2 with fail
    have Ka_0 := (unhide Ka).c0
    have Ka_1 := (unhide Ka).c1
    have Kb_0 := (unhide Kb).c0
    have Kb_1 := (unhide Kb).c1
    have Kp_0 := (unhide Kp).c0
    have Kp_1 := (unhide Kp).c1
    go_wp2_with fail
    refine (unhide C1 _).mono ?_
    rintro e w17 ⟨rfl, hb⟩
    clear Ka_0 Ka_1 Kb_0 Kb_1 Kp_0 Kp_1
    replace Ka := hide ((unhide Ka).later hb)
    replace Kb := hide ((unhide Kb).later hb)
    replace Kc := hide ((unhide Kc).later hb)
    replace Kp := hide ((unhide Kp).later hb)
    replace BW := hide (below_on (unhide BW) hb)
    clear hb
    clear Ka Kb Kc Kp
    go_wp2_with fail
    go_ret
    exact ⟨by simp [*], unhide BW⟩
set_option maxHeartbeats 4000000 in
theorem InTriangleI (a b c p : Int × Int) (w : World) :
    Calls Try.prog 42 #[.agg #[.int .i64 a.1, .int .i64 a.2], .agg #[.int .i64 b.1, .int .i64 b.2], .agg #[.int .i64 c.1, .int .i64 c.2], .agg #[.int .i64 p.1, .int .i64 p.2]] w fun e w' => e = .returned (.tuple #[.bool (itV a b c p), .bool (itB a b c p)]) ∧ Below w.heap.size w w' := by
  cases hg : [a, b, c, p].all gPt
  · have e0 : itB a b c p = false := by unfold itB; rw [hg]; rfl
    have e1 : itV a b c p = false := by unfold itV; rw [e0]; rfl
    rw [e0, e1]
    clear e0 e1
    have HG := hide hg
    clear hg
    have BW : Hid (Below w.heap.size w w) := hide (Below.refl _ _)
    have al : Below w.heap.size w ((((w.alloc (.cells #[.int .i64 a.1, .int .i64 a.2] 59)).alloc (.cells #[.int .i64 b.1, .int .i64 b.2] 59)).alloc (.cells #[.int .i64 c.1, .int .i64 c.2] 59)).alloc (.cells #[.int .i64 p.1, .int .i64 p.2] 59)) := (((((Below.refl _ _).alloc (Nat.le_refl _) _).alloc (by simp) _).alloc (by simp; omega) _).alloc (by simp; omega) _)
    replace BW := hide (below_on (unhide BW) al)
    clear al
    have Ka : Hid (BxP ((((w.alloc (.cells #[.int .i64 a.1, .int .i64 a.2] 59)).alloc (.cells #[.int .i64 b.1, .int .i64 b.2] 59)).alloc (.cells #[.int .i64 c.1, .int .i64 c.2] 59)).alloc (.cells #[.int .i64 p.1, .int .i64 p.2] 59)) (w.heap.size) a.1 a.2) := hide (((((BxP.new (w := w) (x := a.1) (y := a.2) (t := 59)).later ((Below.refl _ _).alloc (Nat.le_refl _) _)).later ((Below.refl _ _).alloc (Nat.le_refl _) _)).later ((Below.refl _ _).alloc (Nat.le_refl _) _)))
    have zz : (w.alloc (.cells #[.int .i64 a.1, .int .i64 a.2] 59)).heap.size = w.heap.size + 1 := by simp
    have Kb : Hid (BxP ((((w.alloc (.cells #[.int .i64 a.1, .int .i64 a.2] 59)).alloc (.cells #[.int .i64 b.1, .int .i64 b.2] 59)).alloc (.cells #[.int .i64 c.1, .int .i64 c.2] 59)).alloc (.cells #[.int .i64 p.1, .int .i64 p.2] 59)) (w.heap.size + 1) b.1 b.2) := hide (zz ▸ (((BxP.new (w := (w.alloc (.cells #[.int .i64 a.1, .int .i64 a.2] 59))) (x := b.1) (y := b.2) (t := 59)).later ((Below.refl _ _).alloc (Nat.le_refl _) _)).later ((Below.refl _ _).alloc (Nat.le_refl _) _)))
    clear zz
    have zz : ((w.alloc (.cells #[.int .i64 a.1, .int .i64 a.2] 59)).alloc (.cells #[.int .i64 b.1, .int .i64 b.2] 59)).heap.size = w.heap.size + 1 + 1 := by simp
    have Kc : Hid (BxP ((((w.alloc (.cells #[.int .i64 a.1, .int .i64 a.2] 59)).alloc (.cells #[.int .i64 b.1, .int .i64 b.2] 59)).alloc (.cells #[.int .i64 c.1, .int .i64 c.2] 59)).alloc (.cells #[.int .i64 p.1, .int .i64 p.2] 59)) (w.heap.size + 1 + 1) c.1 c.2) := hide (zz ▸ ((BxP.new (w := ((w.alloc (.cells #[.int .i64 a.1, .int .i64 a.2] 59)).alloc (.cells #[.int .i64 b.1, .int .i64 b.2] 59))) (x := c.1) (y := c.2) (t := 59)).later ((Below.refl _ _).alloc (Nat.le_refl _) _)))
    clear zz
    have zz : (((w.alloc (.cells #[.int .i64 a.1, .int .i64 a.2] 59)).alloc (.cells #[.int .i64 b.1, .int .i64 b.2] 59)).alloc (.cells #[.int .i64 c.1, .int .i64 c.2] 59)).heap.size = w.heap.size + 1 + 1 + 1 := by simp
    have Kp : Hid (BxP ((((w.alloc (.cells #[.int .i64 a.1, .int .i64 a.2] 59)).alloc (.cells #[.int .i64 b.1, .int .i64 b.2] 59)).alloc (.cells #[.int .i64 c.1, .int .i64 c.2] 59)).alloc (.cells #[.int .i64 p.1, .int .i64 p.2] 59)) (w.heap.size + 1 + 1 + 1) p.1 p.2) := hide (zz ▸ (BxP.new (w := (((w.alloc (.cells #[.int .i64 a.1, .int .i64 a.2] 59)).alloc (.cells #[.int .i64 b.1, .int .i64 b.2] 59)).alloc (.cells #[.int .i64 c.1, .int .i64 c.2] 59))) (x := p.1) (y := p.2) (t := 59)))
    clear zz
    have C3 : Hid (SlP (((((w.alloc (.cells #[.int .i64 a.1, .int .i64 a.2] 59)).alloc (.cells #[.int .i64 b.1, .int .i64 b.2] 59)).alloc (.cells #[.int .i64 c.1, .int .i64 c.2] 59)).alloc (.cells #[.int .i64 p.1, .int .i64 p.2] 59)).alloc (.cells #[.int .i64 a.1, .int .i64 a.2, .int .i64 b.1, .int .i64 b.2, .int .i64 c.1, .int .i64 c.2, .int .i64 p.1, .int .i64 p.2] 59)) (some ⟨w.heap.size + 1 + 1 + 1 + 1, 0, none⟩) [a, b, c, p]) := hide (by have k := cellsP4 ((((w.alloc (.cells #[.int .i64 a.1, .int .i64 a.2] 59)).alloc (.cells #[.int .i64 b.1, .int .i64 b.2] 59)).alloc (.cells #[.int .i64 c.1, .int .i64 c.2] 59)).alloc (.cells #[.int .i64 p.1, .int .i64 p.2] 59)) a b c p; rw [show ((((w.alloc (.cells #[.int .i64 a.1, .int .i64 a.2] 59)).alloc (.cells #[.int .i64 b.1, .int .i64 b.2] 59)).alloc (.cells #[.int .i64 c.1, .int .i64 c.2] 59)).alloc (.cells #[.int .i64 p.1, .int .i64 p.2] 59)).heap.size = w.heap.size + 1 + 1 + 1 + 1 by simp] at k; exact k)
    have al : Below ((((w.alloc (.cells #[.int .i64 a.1, .int .i64 a.2] 59)).alloc (.cells #[.int .i64 b.1, .int .i64 b.2] 59)).alloc (.cells #[.int .i64 c.1, .int .i64 c.2] 59)).alloc (.cells #[.int .i64 p.1, .int .i64 p.2] 59)).heap.size ((((w.alloc (.cells #[.int .i64 a.1, .int .i64 a.2] 59)).alloc (.cells #[.int .i64 b.1, .int .i64 b.2] 59)).alloc (.cells #[.int .i64 c.1, .int .i64 c.2] 59)).alloc (.cells #[.int .i64 p.1, .int .i64 p.2] 59)) (((((w.alloc (.cells #[.int .i64 a.1, .int .i64 a.2] 59)).alloc (.cells #[.int .i64 b.1, .int .i64 b.2] 59)).alloc (.cells #[.int .i64 c.1, .int .i64 c.2] 59)).alloc (.cells #[.int .i64 p.1, .int .i64 p.2] 59)).alloc (.cells #[.int .i64 a.1, .int .i64 a.2, .int .i64 b.1, .int .i64 b.2, .int .i64 c.1, .int .i64 c.2, .int .i64 p.1, .int .i64 p.2] 59)) := (Below.refl _ _).alloc (Nat.le_refl _) _
    replace Ka := hide ((unhide Ka).later al)
    replace Kb := hide ((unhide Kb).later al)
    replace Kc := hide ((unhide Kc).later al)
    replace Kp := hide ((unhide Kp).later al)
    replace BW := hide (below_on (unhide BW) al)
    clear al
    go_enter Try.func42, Try.ntmps42
    go_wp2_with fail
    refine (ptsI _ 4 4 [a, b, c, p] _ (unhide C3) rfl (by unfold maxLen; omega)).mono ?_
    rintro e w1 ⟨rfl, hb⟩
    replace Ka := hide ((unhide Ka).later hb)
    replace Kb := hide ((unhide Kb).later hb)
    replace Kc := hide ((unhide Kc).later hb)
    replace Kp := hide ((unhide Kp).later hb)
    replace BW := hide (below_on (unhide BW) hb)
    clear hb
    clear C3
    rw [unhide HG]
    clear Ka Kb Kc Kp
    go_wp2_with fail
    go_ret2
    exact ⟨rfl, unhide BW⟩
  · have na : Near a := near_of (List.all_eq_true.1 hg a (by simp))
    have nb : Near b := near_of (List.all_eq_true.1 hg b (by simp))
    have nc : Near c := near_of (List.all_eq_true.1 hg c (by simp))
    have np : Near p := near_of (List.all_eq_true.1 hg p (by simp))
    have C0 := hide (fun w => turnI a b c w na nb nc)
    have C1 := hide (fun w ht => inI11 a b c p w na nb nc np ht)
    have e0 : itB a b c p = !(sgZ (crs a b c) == 0) := by unfold itB; rw [hg]; rfl
    have e1 : itV a b c p = (!(sgZ (crs a b c) == 0) && inT a b c p) := by unfold itV; rw [e0]
    rw [e0, e1]
    clear e0 e1 na nb nc np
    generalize sgZ (crs a b c) = k at *
    generalize inT a b c p = v at *
    have HG := hide hg
    clear hg
    have BW : Hid (Below w.heap.size w w) := hide (Below.refl _ _)
    have al : Below w.heap.size w ((((w.alloc (.cells #[.int .i64 a.1, .int .i64 a.2] 59)).alloc (.cells #[.int .i64 b.1, .int .i64 b.2] 59)).alloc (.cells #[.int .i64 c.1, .int .i64 c.2] 59)).alloc (.cells #[.int .i64 p.1, .int .i64 p.2] 59)) := (((((Below.refl _ _).alloc (Nat.le_refl _) _).alloc (by simp) _).alloc (by simp; omega) _).alloc (by simp; omega) _)
    replace BW := hide (below_on (unhide BW) al)
    clear al
    have Ka : Hid (BxP ((((w.alloc (.cells #[.int .i64 a.1, .int .i64 a.2] 59)).alloc (.cells #[.int .i64 b.1, .int .i64 b.2] 59)).alloc (.cells #[.int .i64 c.1, .int .i64 c.2] 59)).alloc (.cells #[.int .i64 p.1, .int .i64 p.2] 59)) (w.heap.size) a.1 a.2) := hide (((((BxP.new (w := w) (x := a.1) (y := a.2) (t := 59)).later ((Below.refl _ _).alloc (Nat.le_refl _) _)).later ((Below.refl _ _).alloc (Nat.le_refl _) _)).later ((Below.refl _ _).alloc (Nat.le_refl _) _)))
    have zz : (w.alloc (.cells #[.int .i64 a.1, .int .i64 a.2] 59)).heap.size = w.heap.size + 1 := by simp
    have Kb : Hid (BxP ((((w.alloc (.cells #[.int .i64 a.1, .int .i64 a.2] 59)).alloc (.cells #[.int .i64 b.1, .int .i64 b.2] 59)).alloc (.cells #[.int .i64 c.1, .int .i64 c.2] 59)).alloc (.cells #[.int .i64 p.1, .int .i64 p.2] 59)) (w.heap.size + 1) b.1 b.2) := hide (zz ▸ (((BxP.new (w := (w.alloc (.cells #[.int .i64 a.1, .int .i64 a.2] 59))) (x := b.1) (y := b.2) (t := 59)).later ((Below.refl _ _).alloc (Nat.le_refl _) _)).later ((Below.refl _ _).alloc (Nat.le_refl _) _)))
    clear zz
    have zz : ((w.alloc (.cells #[.int .i64 a.1, .int .i64 a.2] 59)).alloc (.cells #[.int .i64 b.1, .int .i64 b.2] 59)).heap.size = w.heap.size + 1 + 1 := by simp
    have Kc : Hid (BxP ((((w.alloc (.cells #[.int .i64 a.1, .int .i64 a.2] 59)).alloc (.cells #[.int .i64 b.1, .int .i64 b.2] 59)).alloc (.cells #[.int .i64 c.1, .int .i64 c.2] 59)).alloc (.cells #[.int .i64 p.1, .int .i64 p.2] 59)) (w.heap.size + 1 + 1) c.1 c.2) := hide (zz ▸ ((BxP.new (w := ((w.alloc (.cells #[.int .i64 a.1, .int .i64 a.2] 59)).alloc (.cells #[.int .i64 b.1, .int .i64 b.2] 59))) (x := c.1) (y := c.2) (t := 59)).later ((Below.refl _ _).alloc (Nat.le_refl _) _)))
    clear zz
    have zz : (((w.alloc (.cells #[.int .i64 a.1, .int .i64 a.2] 59)).alloc (.cells #[.int .i64 b.1, .int .i64 b.2] 59)).alloc (.cells #[.int .i64 c.1, .int .i64 c.2] 59)).heap.size = w.heap.size + 1 + 1 + 1 := by simp
    have Kp : Hid (BxP ((((w.alloc (.cells #[.int .i64 a.1, .int .i64 a.2] 59)).alloc (.cells #[.int .i64 b.1, .int .i64 b.2] 59)).alloc (.cells #[.int .i64 c.1, .int .i64 c.2] 59)).alloc (.cells #[.int .i64 p.1, .int .i64 p.2] 59)) (w.heap.size + 1 + 1 + 1) p.1 p.2) := hide (zz ▸ (BxP.new (w := (((w.alloc (.cells #[.int .i64 a.1, .int .i64 a.2] 59)).alloc (.cells #[.int .i64 b.1, .int .i64 b.2] 59)).alloc (.cells #[.int .i64 c.1, .int .i64 c.2] 59))) (x := p.1) (y := p.2) (t := 59)))
    clear zz
    have C3 : Hid (SlP (((((w.alloc (.cells #[.int .i64 a.1, .int .i64 a.2] 59)).alloc (.cells #[.int .i64 b.1, .int .i64 b.2] 59)).alloc (.cells #[.int .i64 c.1, .int .i64 c.2] 59)).alloc (.cells #[.int .i64 p.1, .int .i64 p.2] 59)).alloc (.cells #[.int .i64 a.1, .int .i64 a.2, .int .i64 b.1, .int .i64 b.2, .int .i64 c.1, .int .i64 c.2, .int .i64 p.1, .int .i64 p.2] 59)) (some ⟨w.heap.size + 1 + 1 + 1 + 1, 0, none⟩) [a, b, c, p]) := hide (by have k := cellsP4 ((((w.alloc (.cells #[.int .i64 a.1, .int .i64 a.2] 59)).alloc (.cells #[.int .i64 b.1, .int .i64 b.2] 59)).alloc (.cells #[.int .i64 c.1, .int .i64 c.2] 59)).alloc (.cells #[.int .i64 p.1, .int .i64 p.2] 59)) a b c p; rw [show ((((w.alloc (.cells #[.int .i64 a.1, .int .i64 a.2] 59)).alloc (.cells #[.int .i64 b.1, .int .i64 b.2] 59)).alloc (.cells #[.int .i64 c.1, .int .i64 c.2] 59)).alloc (.cells #[.int .i64 p.1, .int .i64 p.2] 59)).heap.size = w.heap.size + 1 + 1 + 1 + 1 by simp] at k; exact k)
    have al : Below ((((w.alloc (.cells #[.int .i64 a.1, .int .i64 a.2] 59)).alloc (.cells #[.int .i64 b.1, .int .i64 b.2] 59)).alloc (.cells #[.int .i64 c.1, .int .i64 c.2] 59)).alloc (.cells #[.int .i64 p.1, .int .i64 p.2] 59)).heap.size ((((w.alloc (.cells #[.int .i64 a.1, .int .i64 a.2] 59)).alloc (.cells #[.int .i64 b.1, .int .i64 b.2] 59)).alloc (.cells #[.int .i64 c.1, .int .i64 c.2] 59)).alloc (.cells #[.int .i64 p.1, .int .i64 p.2] 59)) (((((w.alloc (.cells #[.int .i64 a.1, .int .i64 a.2] 59)).alloc (.cells #[.int .i64 b.1, .int .i64 b.2] 59)).alloc (.cells #[.int .i64 c.1, .int .i64 c.2] 59)).alloc (.cells #[.int .i64 p.1, .int .i64 p.2] 59)).alloc (.cells #[.int .i64 a.1, .int .i64 a.2, .int .i64 b.1, .int .i64 b.2, .int .i64 c.1, .int .i64 c.2, .int .i64 p.1, .int .i64 p.2] 59)) := (Below.refl _ _).alloc (Nat.le_refl _) _
    replace Ka := hide ((unhide Ka).later al)
    replace Kb := hide ((unhide Kb).later al)
    replace Kc := hide ((unhide Kc).later al)
    replace Kp := hide ((unhide Kp).later al)
    replace BW := hide (below_on (unhide BW) al)
    clear al
    go_enter Try.func42, Try.ntmps42
    go_wp2_with fail
    refine (ptsI _ 4 4 [a, b, c, p] _ (unhide C3) rfl (by unfold maxLen; omega)).mono ?_
    rintro e w2 ⟨rfl, hb⟩
    replace Ka := hide ((unhide Ka).later hb)
    replace Kb := hide ((unhide Kb).later hb)
    replace Kc := hide ((unhide Kc).later hb)
    replace Kp := hide ((unhide Kp).later hb)
    replace BW := hide (below_on (unhide BW) hb)
    clear hb
    clear C3
    rw [unhide HG]
    have Ka_0 := (unhide Ka).c0
    have Ka_1 := (unhide Ka).c1
    have Kb_0 := (unhide Kb).c0
    have Kb_1 := (unhide Kb).c1
    have Kc_0 := (unhide Kc).c0
    have Kc_1 := (unhide Kc).c1
    go_wp2_with fail
    refine (unhide C0 _).mono ?_
    rintro e w3 ⟨rfl, hb⟩
    clear Ka_0 Ka_1 Kb_0 Kb_1 Kc_0 Kc_1
    replace Ka := hide ((unhide Ka).later hb)
    replace Kb := hide ((unhide Kb).later hb)
    replace Kc := hide ((unhide Kc).later hb)
    replace Kp := hide ((unhide Kp).later hb)
    replace BW := hide (below_on (unhide BW) hb)
    clear hb
    clear C0
    cases hk : (k == 0)
    · skip
      have Ka_0 := (unhide Ka).c0
      have Ka_1 := (unhide Ka).c1
      have Kb_0 := (unhide Kb).c0
      have Kb_1 := (unhide Kb).c1
      have Kc_0 := (unhide Kc).c0
      have Kc_1 := (unhide Kc).c1
      have Kp_0 := (unhide Kp).c0
      have Kp_1 := (unhide Kp).c1
      go_wp2_with fail
      refine (unhide C1 _ (by intro e; rw [e] at hk; exact absurd hk (by decide))).mono ?_
      rintro e w4 ⟨rfl, hb⟩
      clear Ka_0 Ka_1 Kb_0 Kb_1 Kc_0 Kc_1 Kp_0 Kp_1
      replace Ka := hide ((unhide Ka).later hb)
      replace Kb := hide ((unhide Kb).later hb)
      replace Kc := hide ((unhide Kc).later hb)
      replace Kp := hide ((unhide Kp).later hb)
      replace BW := hide (below_on (unhide BW) hb)
      clear hb
      clear Ka Kb Kc Kp
      go_wp2_with fail
      go_ret2
      exact ⟨by simp only [hk]; rfl, unhide BW⟩
    · skip
      clear Ka Kb Kc Kp
      go_wp2_with fail
      go_ret2
      exact ⟨by simp only [hk]; rfl, unhide BW⟩
end Go.Proofs.Ytblhjeepelgdaaa
namespace Go.Proofs.Ytblhjeepelgdaaa
open Go.RowKit
set_option linter.unusedVariables false
set_option maxRecDepth 100000
set_option linter.unusedSimpArgs false

/-- A corner's number. -/
def cnB (n : Nat) (k : Int) : Bool := decide (0 ≤ k) && decide (k < (n : Int))
def trB (n : Nat) (t : Int × Int × Int) : Bool := cnB n t.1 && cnB n t.2.1 && cnB n t.2.2
def hsB (g : Int) (t : Int × Int × Int) : Bool := g == t.1 || g == t.2.1 || g == t.2.2
theorem cornerS (a : Option Addr) (n c : Nat) (k : Int) (w : World) :
    Calls Try.prog 60 #[.slice a n c, .int .i64 k] w fun e w' => e = .returned (.bool (cnB n k)) ∧ w' = w := by
  unfold cnB
  by_cases h0 : 0 ≤ k
  · have d0 : decide (0 ≤ k) = true := decide_eq_true h0
    cases h1 : decide (k < (n : Int))
    · go_enter Try.func60, Try.ntmps60
      go_wp2_with fail
      go_ret
      exact ⟨by rw [d0]; rfl, rfl⟩
    · go_enter Try.func60, Try.ntmps60
      go_wp2_with fail
      go_ret
      exact ⟨by rw [d0]; rfl, rfl⟩
  · have d0 : decide (0 ≤ k) = false := decide_eq_false h0
    go_enter Try.func60, Try.ntmps60
    go_wp2_with fail
    go_ret
    exact ⟨by first | rfl | (rw [d0]; rfl), rfl⟩
theorem triOfS (a : Option Addr) (n c : Nat) (t : Int × Int × Int) (w : World) :
    Calls Try.prog 61 #[.slice a n c, .agg #[.int .i64 t.1, .int .i64 t.2.1, .int .i64 t.2.2]] w fun e w' => e = .returned (.bool (trB n t)) ∧ Below w.heap.size w w' := by
  have C0 := hide (fun w => cornerS a n c t.1 w)
  have C1 := hide (fun w => cornerS a n c t.2.1 w)
  have C2 := hide (fun w => cornerS a n c t.2.2 w)
  unfold trB
  generalize cnB n t.1 = x0 at *
  generalize cnB n t.2.1 = x1 at *
  generalize cnB n t.2.2 = x2 at *
  cases x0
  · go_enter Try.func61, Try.ntmps61
    go_wp2_with fail
    refine (unhide C0 _).mono ?_
    rintro e wz ⟨rfl, rfl⟩
    go_wp2_with fail
    go_ret
    exact ⟨rfl, (Below.refl _ _).alloc (Nat.le_refl _) _⟩
  · cases x1
    · go_enter Try.func61, Try.ntmps61
      go_wp2_with fail
      refine (unhide C0 _).mono ?_
      rintro e wz ⟨rfl, rfl⟩
      go_wp2_with fail
      refine (unhide C1 _).mono ?_
      rintro e wz ⟨rfl, rfl⟩
      go_wp2_with fail
      go_ret
      exact ⟨rfl, (Below.refl _ _).alloc (Nat.le_refl _) _⟩
    · cases x2
      · go_enter Try.func61, Try.ntmps61
        go_wp2_with fail
        refine (unhide C0 _).mono ?_
        rintro e wz ⟨rfl, rfl⟩
        go_wp2_with fail
        refine (unhide C1 _).mono ?_
        rintro e wz ⟨rfl, rfl⟩
        go_wp2_with fail
        refine (unhide C2 _).mono ?_
        rintro e wz ⟨rfl, rfl⟩
        go_wp2_with fail
        go_ret
        exact ⟨rfl, (Below.refl _ _).alloc (Nat.le_refl _) _⟩
      · go_enter Try.func61, Try.ntmps61
        go_wp2_with fail
        refine (unhide C0 _).mono ?_
        rintro e wz ⟨rfl, rfl⟩
        go_wp2_with fail
        refine (unhide C1 _).mono ?_
        rintro e wz ⟨rfl, rfl⟩
        go_wp2_with fail
        refine (unhide C2 _).mono ?_
        rintro e wz ⟨rfl, rfl⟩
        go_wp2_with fail
        go_ret
        exact ⟨rfl, (Below.refl _ _).alloc (Nat.le_refl _) _⟩
theorem cornerI (a : Option Addr) (n c : Nat) (k : Int) (w : World) :
    Calls Try.prog 54 #[.slice a n c, .int .i64 k] w fun e w' => e = .returned (.bool (cnB n k)) ∧ w' = w := by
  unfold cnB
  by_cases h0 : 0 ≤ k
  · have d0 : decide (0 ≤ k) = true := decide_eq_true h0
    cases h1 : decide (k < (n : Int))
    · go_enter Try.func54, Try.ntmps54
      go_wp2_with fail
      go_ret
      exact ⟨by rw [d0]; rfl, rfl⟩
    · go_enter Try.func54, Try.ntmps54
      go_wp2_with fail
      go_ret
      exact ⟨by rw [d0]; rfl, rfl⟩
  · have d0 : decide (0 ≤ k) = false := decide_eq_false h0
    go_enter Try.func54, Try.ntmps54
    go_wp2_with fail
    go_ret
    exact ⟨by first | rfl | (rw [d0]; rfl), rfl⟩
theorem triOfI (a : Option Addr) (n c : Nat) (t : Int × Int × Int) (w : World) :
    Calls Try.prog 55 #[.agg #[.int .i64 t.1, .int .i64 t.2.1, .int .i64 t.2.2], .slice a n c] w fun e w' => e = .returned (.bool (trB n t)) ∧ Below w.heap.size w w' := by
  have C0 := hide (fun w => cornerI a n c t.1 w)
  have C1 := hide (fun w => cornerI a n c t.2.1 w)
  have C2 := hide (fun w => cornerI a n c t.2.2 w)
  unfold trB
  generalize cnB n t.1 = x0 at *
  generalize cnB n t.2.1 = x1 at *
  generalize cnB n t.2.2 = x2 at *
  cases x0
  · go_enter Try.func55, Try.ntmps55
    go_wp2_with fail
    refine (unhide C0 _).mono ?_
    rintro e wz ⟨rfl, rfl⟩
    go_wp2_with fail
    go_ret
    exact ⟨rfl, (Below.refl _ _).alloc (Nat.le_refl _) _⟩
  · cases x1
    · go_enter Try.func55, Try.ntmps55
      go_wp2_with fail
      refine (unhide C0 _).mono ?_
      rintro e wz ⟨rfl, rfl⟩
      go_wp2_with fail
      refine (unhide C1 _).mono ?_
      rintro e wz ⟨rfl, rfl⟩
      go_wp2_with fail
      go_ret
      exact ⟨rfl, (Below.refl _ _).alloc (Nat.le_refl _) _⟩
    · cases x2
      · go_enter Try.func55, Try.ntmps55
        go_wp2_with fail
        refine (unhide C0 _).mono ?_
        rintro e wz ⟨rfl, rfl⟩
        go_wp2_with fail
        refine (unhide C1 _).mono ?_
        rintro e wz ⟨rfl, rfl⟩
        go_wp2_with fail
        refine (unhide C2 _).mono ?_
        rintro e wz ⟨rfl, rfl⟩
        go_wp2_with fail
        go_ret
        exact ⟨rfl, (Below.refl _ _).alloc (Nat.le_refl _) _⟩
      · go_enter Try.func55, Try.ntmps55
        go_wp2_with fail
        refine (unhide C0 _).mono ?_
        rintro e wz ⟨rfl, rfl⟩
        go_wp2_with fail
        refine (unhide C1 _).mono ?_
        rintro e wz ⟨rfl, rfl⟩
        go_wp2_with fail
        refine (unhide C2 _).mono ?_
        rintro e wz ⟨rfl, rfl⟩
        go_wp2_with fail
        go_ret
        exact ⟨rfl, (Below.refl _ _).alloc (Nat.le_refl _) _⟩
theorem hasI11 (t : Int × Int × Int) (k : Int) (w : World) :
    Calls Try.prog 56 #[.agg #[.int .i64 t.1, .int .i64 t.2.1, .int .i64 t.2.2], .int .i64 k] w fun e w' => e = .returned (.bool (hsB k t)) ∧ Below w.heap.size w w' := by
  unfold hsB
  cases x0 : (k == t.1)
  · cases x1 : (k == t.2.1)
    · cases x2 : (k == t.2.2)
      · go_enter Try.func56, Try.ntmps56
        go_wp2_with fail
        go_ret
        exact ⟨rfl, (Below.refl _ _).alloc (Nat.le_refl _) _⟩
      · go_enter Try.func56, Try.ntmps56
        go_wp2_with fail
        go_ret
        exact ⟨rfl, (Below.refl _ _).alloc (Nat.le_refl _) _⟩
    · go_enter Try.func56, Try.ntmps56
      go_wp2_with fail
      go_ret
      exact ⟨rfl, (Below.refl _ _).alloc (Nat.le_refl _) _⟩
  · go_enter Try.func56, Try.ntmps56
    go_wp2_with fail
    go_ret
    exact ⟨rfl, (Below.refl _ _).alloc (Nat.le_refl _) _⟩
def seB (l : List (Int × Int)) (g : Int) (t : Int × Int × Int) : Bool := wayB l && cnB l.length g && trB l.length t
def seV (l : List (Int × Int)) (g : Int) (t : Int × Int × Int) : Bool := seB l g t && hsB g t
set_option maxHeartbeats 4000000 in
theorem SeesS (a : Option Addr) (n c : Nat) (l : List (Int × Int)) (g : Int) (t : Int × Int × Int) (w : World) (h : ArP w a n c l) (h1 : n ≤ 1048576) :
    Calls Try.prog 21 #[.slice a n c, .int .i64 g, .agg #[.int .i64 t.1, .int .i64 t.2.1, .int .i64 t.2.2]] w fun e w' => e = .returned (.tuple #[.bool (seV l g t), .bool (seB l g t)]) ∧ Below w.heap.size w w' := by
  have hn := h.len
  have C1 := hide (fun w (k : SlP w a l) => wayS a n c l w k hn (by unfold maxLen; omega))
  have C2 := hide (fun w => cornerS a n c g w)
  have C3 := hide (fun w => triOfS a n c t w)
  have EB : seB l g t = (wayB l && cnB n g && trB n t) := by unfold seB; rw [hn]
  have EV : seV l g t = ((wayB l && cnB n g && trB n t) && hsB g t) := by unfold seV; rw [EB]
  rw [EB, EV]
  have HS := hide h.sl
  clear h hn EB EV
  generalize wayB l = x0 at *
  generalize cnB n g = x1 at *
  generalize trB n t = x2 at *
  cases x0
  · have B0 := hide (show Below w.heap.size w (w.alloc (.cells #[.int .i64 t.1, .int .i64 t.2.1, .int .i64 t.2.2] 33)) from ((Below.refl _ _).alloc (by simp) _))
    go_enter Try.func21, Try.ntmps21
    go_wp2_with fail
    refine (unhide C1 _ ((unhide HS).later ((Below.refl _ _).alloc (Nat.le_refl _) _))).mono ?_
    rintro e w1 ⟨rfl, hb⟩
    have HB := hide (below_on (unhide B0) hb)
    clear hb
    go_wp2_with fail
    go_ret2
    exact ⟨rfl, unhide HB⟩
  · cases x1
    · have B0 := hide (show Below w.heap.size w (w.alloc (.cells #[.int .i64 t.1, .int .i64 t.2.1, .int .i64 t.2.2] 33)) from ((Below.refl _ _).alloc (by simp) _))
      go_enter Try.func21, Try.ntmps21
      go_wp2_with fail
      refine (unhide C1 _ ((unhide HS).later ((Below.refl _ _).alloc (Nat.le_refl _) _))).mono ?_
      rintro e w1 ⟨rfl, hb⟩
      have HB := hide (below_on (unhide B0) hb)
      clear hb
      go_wp2_with fail
      refine (unhide C2 _).mono ?_
      rintro e wz ⟨rfl, rfl⟩
      go_wp2_with fail
      go_ret2
      exact ⟨rfl, unhide HB⟩
    · cases x2
      · have B0 := hide (show Below w.heap.size w (w.alloc (.cells #[.int .i64 t.1, .int .i64 t.2.1, .int .i64 t.2.2] 33)) from ((Below.refl _ _).alloc (by simp) _))
        go_enter Try.func21, Try.ntmps21
        go_wp2_with fail
        refine (unhide C1 _ ((unhide HS).later ((Below.refl _ _).alloc (Nat.le_refl _) _))).mono ?_
        rintro e w1 ⟨rfl, hb⟩
        have k0_0 : w1.cell? ⟨w.heap.size, 0, none⟩ = some (.int .i64 t.1) := cell_later hb (by simp [go_sem])
        have k0_1 : w1.cell? ⟨w.heap.size, 1, none⟩ = some (.int .i64 t.2.1) := cell_later hb (by simp [go_sem])
        have k0_2 : w1.cell? ⟨w.heap.size, 2, none⟩ = some (.int .i64 t.2.2) := cell_later hb (by simp [go_sem])
        have HB := hide (below_on (unhide B0) hb)
        clear hb
        go_wp2_with fail
        refine (unhide C2 _).mono ?_
        rintro e wz ⟨rfl, rfl⟩
        go_wp2_with fail
        refine (unhide C3 _).mono ?_
        rintro e w2 ⟨rfl, hb⟩
        clear k0_0 k0_1 k0_2
        replace HB := hide (below_on (unhide HB) hb)
        clear hb
        go_wp2_with fail
        go_ret2
        exact ⟨rfl, unhide HB⟩
      · unfold hsB
        cases y0 : (g == t.1)
        · cases y1 : (g == t.2.1)
          · cases y2 : (g == t.2.2)
            · have B0 := hide (show Below w.heap.size w (w.alloc (.cells #[.int .i64 t.1, .int .i64 t.2.1, .int .i64 t.2.2] 33)) from ((Below.refl _ _).alloc (by simp) _))
              go_enter Try.func21, Try.ntmps21
              go_wp2_with fail
              refine (unhide C1 _ ((unhide HS).later ((Below.refl _ _).alloc (Nat.le_refl _) _))).mono ?_
              rintro e w1 ⟨rfl, hb⟩
              have k0_0 : w1.cell? ⟨w.heap.size, 0, none⟩ = some (.int .i64 t.1) := cell_later hb (by simp [go_sem])
              have k0_1 : w1.cell? ⟨w.heap.size, 1, none⟩ = some (.int .i64 t.2.1) := cell_later hb (by simp [go_sem])
              have k0_2 : w1.cell? ⟨w.heap.size, 2, none⟩ = some (.int .i64 t.2.2) := cell_later hb (by simp [go_sem])
              have HB := hide (below_on (unhide B0) hb)
              clear hb
              go_wp2_with fail
              refine (unhide C2 _).mono ?_
              rintro e wz ⟨rfl, rfl⟩
              go_wp2_with fail
              refine (unhide C3 _).mono ?_
              rintro e w2 ⟨rfl, hb⟩
              replace k0_0 := cell_later hb k0_0
              replace k0_1 := cell_later hb k0_1
              replace k0_2 := cell_later hb k0_2
              replace HB := hide (below_on (unhide HB) hb)
              clear hb
              go_wp2_with fail
              go_ret2
              exact ⟨rfl, unhide HB⟩
            · have B0 := hide (show Below w.heap.size w (w.alloc (.cells #[.int .i64 t.1, .int .i64 t.2.1, .int .i64 t.2.2] 33)) from ((Below.refl _ _).alloc (by simp) _))
              go_enter Try.func21, Try.ntmps21
              go_wp2_with fail
              refine (unhide C1 _ ((unhide HS).later ((Below.refl _ _).alloc (Nat.le_refl _) _))).mono ?_
              rintro e w1 ⟨rfl, hb⟩
              have k0_0 : w1.cell? ⟨w.heap.size, 0, none⟩ = some (.int .i64 t.1) := cell_later hb (by simp [go_sem])
              have k0_1 : w1.cell? ⟨w.heap.size, 1, none⟩ = some (.int .i64 t.2.1) := cell_later hb (by simp [go_sem])
              have k0_2 : w1.cell? ⟨w.heap.size, 2, none⟩ = some (.int .i64 t.2.2) := cell_later hb (by simp [go_sem])
              have HB := hide (below_on (unhide B0) hb)
              clear hb
              go_wp2_with fail
              refine (unhide C2 _).mono ?_
              rintro e wz ⟨rfl, rfl⟩
              go_wp2_with fail
              refine (unhide C3 _).mono ?_
              rintro e w2 ⟨rfl, hb⟩
              replace k0_0 := cell_later hb k0_0
              replace k0_1 := cell_later hb k0_1
              replace k0_2 := cell_later hb k0_2
              replace HB := hide (below_on (unhide HB) hb)
              clear hb
              go_wp2_with fail
              go_ret2
              exact ⟨rfl, unhide HB⟩
          · have B0 := hide (show Below w.heap.size w (w.alloc (.cells #[.int .i64 t.1, .int .i64 t.2.1, .int .i64 t.2.2] 33)) from ((Below.refl _ _).alloc (by simp) _))
            go_enter Try.func21, Try.ntmps21
            go_wp2_with fail
            refine (unhide C1 _ ((unhide HS).later ((Below.refl _ _).alloc (Nat.le_refl _) _))).mono ?_
            rintro e w1 ⟨rfl, hb⟩
            have k0_0 : w1.cell? ⟨w.heap.size, 0, none⟩ = some (.int .i64 t.1) := cell_later hb (by simp [go_sem])
            have k0_1 : w1.cell? ⟨w.heap.size, 1, none⟩ = some (.int .i64 t.2.1) := cell_later hb (by simp [go_sem])
            have k0_2 : w1.cell? ⟨w.heap.size, 2, none⟩ = some (.int .i64 t.2.2) := cell_later hb (by simp [go_sem])
            have HB := hide (below_on (unhide B0) hb)
            clear hb
            go_wp2_with fail
            refine (unhide C2 _).mono ?_
            rintro e wz ⟨rfl, rfl⟩
            go_wp2_with fail
            refine (unhide C3 _).mono ?_
            rintro e w2 ⟨rfl, hb⟩
            replace k0_0 := cell_later hb k0_0
            replace k0_1 := cell_later hb k0_1
            replace k0_2 := cell_later hb k0_2
            replace HB := hide (below_on (unhide HB) hb)
            clear hb
            go_wp2_with fail
            go_ret2
            exact ⟨rfl, unhide HB⟩
        · have B0 := hide (show Below w.heap.size w (w.alloc (.cells #[.int .i64 t.1, .int .i64 t.2.1, .int .i64 t.2.2] 33)) from ((Below.refl _ _).alloc (by simp) _))
          go_enter Try.func21, Try.ntmps21
          go_wp2_with fail
          refine (unhide C1 _ ((unhide HS).later ((Below.refl _ _).alloc (Nat.le_refl _) _))).mono ?_
          rintro e w1 ⟨rfl, hb⟩
          have k0_0 : w1.cell? ⟨w.heap.size, 0, none⟩ = some (.int .i64 t.1) := cell_later hb (by simp [go_sem])
          have k0_1 : w1.cell? ⟨w.heap.size, 1, none⟩ = some (.int .i64 t.2.1) := cell_later hb (by simp [go_sem])
          have k0_2 : w1.cell? ⟨w.heap.size, 2, none⟩ = some (.int .i64 t.2.2) := cell_later hb (by simp [go_sem])
          have HB := hide (below_on (unhide B0) hb)
          clear hb
          go_wp2_with fail
          refine (unhide C2 _).mono ?_
          rintro e wz ⟨rfl, rfl⟩
          go_wp2_with fail
          refine (unhide C3 _).mono ?_
          rintro e w2 ⟨rfl, hb⟩
          replace k0_0 := cell_later hb k0_0
          replace k0_1 := cell_later hb k0_1
          replace k0_2 := cell_later hb k0_2
          replace HB := hide (below_on (unhide HB) hb)
          clear hb
          go_wp2_with fail
          go_ret2
          exact ⟨rfl, unhide HB⟩
set_option maxHeartbeats 4000000 in
theorem SeesI (a : Option Addr) (n c : Nat) (l : List (Int × Int)) (g : Int) (t : Int × Int × Int) (w : World) (h : ArP w a n c l) (h1 : n ≤ 1048576) :
    Calls Try.prog 19 #[.slice a n c, .int .i64 g, .agg #[.int .i64 t.1, .int .i64 t.2.1, .int .i64 t.2.2]] w fun e w' => e = .returned (.tuple #[.bool (seV l g t), .bool (seB l g t)]) ∧ Below w.heap.size w w' := by
  have hn := h.len
  have C1 := hide (fun w (k : SlP w a l) => wayI a n c l w k hn (by unfold maxLen; omega))
  have C2 := hide (fun w => cornerI a n c g w)
  have C3 := hide (fun w => triOfI a n c t w)
  have C4 := hide (fun w => hasI11 t g w)
  have EB : seB l g t = (wayB l && cnB n g && trB n t) := by unfold seB; rw [hn]
  have EV : seV l g t = ((wayB l && cnB n g && trB n t) && hsB g t) := by unfold seV; rw [EB]
  rw [EB, EV]
  have HS := hide h.sl
  clear h hn EB EV
  generalize wayB l = x0 at *
  generalize cnB n g = x1 at *
  generalize trB n t = x2 at *
  cases x0
  · have B0 := hide (show Below w.heap.size w (w.alloc (.cells #[.int .i64 t.1, .int .i64 t.2.1, .int .i64 t.2.2] 33)) from ((Below.refl _ _).alloc (by simp) _))
    go_enter Try.func19, Try.ntmps19
    go_wp2_with fail
    refine (unhide C1 _ ((unhide HS).later ((Below.refl _ _).alloc (Nat.le_refl _) _))).mono ?_
    rintro e w1 ⟨rfl, hb⟩
    have HB := hide (below_on (unhide B0) hb)
    clear hb
    go_wp2_with fail
    go_ret2
    exact ⟨rfl, unhide HB⟩
  · cases x1
    · have B0 := hide (show Below w.heap.size w (w.alloc (.cells #[.int .i64 t.1, .int .i64 t.2.1, .int .i64 t.2.2] 33)) from ((Below.refl _ _).alloc (by simp) _))
      go_enter Try.func19, Try.ntmps19
      go_wp2_with fail
      refine (unhide C1 _ ((unhide HS).later ((Below.refl _ _).alloc (Nat.le_refl _) _))).mono ?_
      rintro e w1 ⟨rfl, hb⟩
      have HB := hide (below_on (unhide B0) hb)
      clear hb
      go_wp2_with fail
      refine (unhide C2 _).mono ?_
      rintro e wz ⟨rfl, rfl⟩
      go_wp2_with fail
      go_ret2
      exact ⟨rfl, unhide HB⟩
    · cases x2
      · have B0 := hide (show Below w.heap.size w (w.alloc (.cells #[.int .i64 t.1, .int .i64 t.2.1, .int .i64 t.2.2] 33)) from ((Below.refl _ _).alloc (by simp) _))
        go_enter Try.func19, Try.ntmps19
        go_wp2_with fail
        refine (unhide C1 _ ((unhide HS).later ((Below.refl _ _).alloc (Nat.le_refl _) _))).mono ?_
        rintro e w1 ⟨rfl, hb⟩
        have k0_0 : w1.cell? ⟨w.heap.size, 0, none⟩ = some (.int .i64 t.1) := cell_later hb (by simp [go_sem])
        have k0_1 : w1.cell? ⟨w.heap.size, 1, none⟩ = some (.int .i64 t.2.1) := cell_later hb (by simp [go_sem])
        have k0_2 : w1.cell? ⟨w.heap.size, 2, none⟩ = some (.int .i64 t.2.2) := cell_later hb (by simp [go_sem])
        have HB := hide (below_on (unhide B0) hb)
        clear hb
        go_wp2_with fail
        refine (unhide C2 _).mono ?_
        rintro e wz ⟨rfl, rfl⟩
        go_wp2_with fail
        refine (unhide C3 _).mono ?_
        rintro e w2 ⟨rfl, hb⟩
        clear k0_0 k0_1 k0_2
        replace HB := hide (below_on (unhide HB) hb)
        clear hb
        go_wp2_with fail
        go_ret2
        exact ⟨rfl, unhide HB⟩
      · generalize hsB g t = v at *
        have B0 := hide (show Below w.heap.size w (w.alloc (.cells #[.int .i64 t.1, .int .i64 t.2.1, .int .i64 t.2.2] 33)) from ((Below.refl _ _).alloc (by simp) _))
        go_enter Try.func19, Try.ntmps19
        go_wp2_with fail
        refine (unhide C1 _ ((unhide HS).later ((Below.refl _ _).alloc (Nat.le_refl _) _))).mono ?_
        rintro e w1 ⟨rfl, hb⟩
        have k0_0 : w1.cell? ⟨w.heap.size, 0, none⟩ = some (.int .i64 t.1) := cell_later hb (by simp [go_sem])
        have k0_1 : w1.cell? ⟨w.heap.size, 1, none⟩ = some (.int .i64 t.2.1) := cell_later hb (by simp [go_sem])
        have k0_2 : w1.cell? ⟨w.heap.size, 2, none⟩ = some (.int .i64 t.2.2) := cell_later hb (by simp [go_sem])
        have HB := hide (below_on (unhide B0) hb)
        clear hb
        go_wp2_with fail
        refine (unhide C2 _).mono ?_
        rintro e wz ⟨rfl, rfl⟩
        go_wp2_with fail
        refine (unhide C3 _).mono ?_
        rintro e w2 ⟨rfl, hb⟩
        replace k0_0 := cell_later hb k0_0
        replace k0_1 := cell_later hb k0_1
        replace k0_2 := cell_later hb k0_2
        replace HB := hide (below_on (unhide HB) hb)
        clear hb
        go_wp2_with fail
        refine (unhide C4 _).mono ?_
        rintro e w3 ⟨rfl, hb⟩
        clear k0_0 k0_1 k0_2
        replace HB := hide (below_on (unhide HB) hb)
        clear hb
        go_wp2_with fail
        go_ret2
        exact ⟨rfl, unhide HB⟩
end Go.Proofs.Ytblhjeepelgdaaa
namespace Go.Proofs.Ytblhjeepelgdaaa
open Go.RowKit
set_option linter.unusedVariables false
set_option maxRecDepth 100000
set_option linter.unusedSimpArgs false

/-- A good simple way. -/
noncomputable def ipB (l : List (Int × Int)) : Bool := wayB l && siI l
theorem ip_parts {l : List (Int × Int)} (h : ipB l = true) : wayB l = true ∧ siI l = true := by
  unfold ipB at h
  exact (Bool.and_eq_true _ _).mp h
set_option maxHeartbeats 2000000 in
theorem gswS (a : Option Addr) (n c : Nat) (l : List (Int × Int)) (w : World) (h : SlP w a l) (hn : l.length = n) (h1 : n ≤ 1048576) :
    Calls Try.prog 48 #[.slice a n c] w fun e w' => e = .returned (.bool (ipB l)) ∧ Below w.heap.size w w' := by
  have C1 := hide (fun w (k : SlP w a l) => wayS a n c l w k hn (by unfold maxLen; omega))
  have HS := hide h
  cases hg : wayB l
  · rw [hg] at C1
    have EV : ipB l = false := by unfold ipB; rw [hg]; rfl
    rw [EV]
    clear hg h hn EV
    go_enter Try.func48, Try.ntmps48
    go_wp2_with fail
    refine (unhide C1 _ (unhide HS)).mono ?_
    rintro e w1 ⟨rfl, hb⟩
    go_wp2_with fail
    go_ret
    exact ⟨rfl, hb⟩
  · rw [hg] at C1
    have wp := way_parts hg
    have C2 := hide (fun w (k : SlP w a l) => simpleS a n c l w k hn (by have := wp.1; rw [hn] at this; omega) (by have := wp.1; rw [hn] at this; omega) wp.2)
    rw [si_eq wp.1.1] at C2
    have EV : ipB l = siI l := by unfold ipB; rw [hg]; rfl
    rw [EV]
    clear hg h hn wp EV
    generalize siI l = k at *
    go_enter Try.func48, Try.ntmps48
    go_wp2_with fail
    refine (unhide C1 _ (unhide HS)).mono ?_
    rintro e w1 ⟨rfl, hb⟩
    have HS1 := hide ((unhide HS).later hb)
    have HB := hide hb
    clear hb
    go_wp2_with fail
    refine (unhide C2 _ (unhide HS1)).mono ?_
    rintro e w2 ⟨rfl, hb⟩
    replace HB := hide (below_on (unhide HB) hb)
    clear hb
    go_wp2_with fail
    go_ret
    exact ⟨rfl, unhide HB⟩
set_option maxHeartbeats 2000000 in
theorem gswI (a : Option Addr) (n c : Nat) (l : List (Int × Int)) (w : World) (h : SlP w a l) (hn : l.length = n) (h1 : n ≤ 1048576) :
    Calls Try.prog 46 #[.slice a n c] w fun e w' => e = .returned (.bool (ipB l)) ∧ Below w.heap.size w w' := by
  have C1 := hide (fun w (k : SlP w a l) => wayI a n c l w k hn (by unfold maxLen; omega))
  have HS := hide h
  cases hg : wayB l
  · rw [hg] at C1
    have EV : ipB l = false := by unfold ipB; rw [hg]; rfl
    rw [EV]
    clear hg h hn EV
    go_enter Try.func46, Try.ntmps46
    go_wp2_with fail
    refine (unhide C1 _ (unhide HS)).mono ?_
    rintro e w1 ⟨rfl, hb⟩
    go_wp2_with fail
    go_ret
    exact ⟨rfl, hb⟩
  · rw [hg] at C1
    have wp := way_parts hg
    have C2 := hide (fun w (k : SlP w a l) => simpleI a n c l w k hn (by have := wp.1; rw [hn] at this; omega) (by have := wp.1; rw [hn] at this; omega) wp.2)
    have EV : ipB l = siI l := by unfold ipB; rw [hg]; rfl
    rw [EV]
    clear hg h hn wp EV
    generalize siI l = k at *
    go_enter Try.func46, Try.ntmps46
    go_wp2_with fail
    refine (unhide C1 _ (unhide HS)).mono ?_
    rintro e w1 ⟨rfl, hb⟩
    have HS1 := hide ((unhide HS).later hb)
    have HB := hide hb
    clear hb
    go_wp2_with fail
    refine (unhide C2 _ (unhide HS1)).mono ?_
    rintro e w2 ⟨rfl, hb⟩
    replace HB := hide (below_on (unhide HB) hb)
    clear hb
    go_wp2_with fail
    go_ret
    exact ⟨rfl, unhide HB⟩
end Go.Proofs.Ytblhjeepelgdaaa

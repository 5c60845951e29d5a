/- Triangles (three numbers) and slices of them: what the laws' functions on them answer. No condition beyond those typed. Written by mktr11.py. -/
import Derived.Test.YtblhjeepelgdaaaPtM
namespace Go.Proofs.Ytblhjeepelgdaaa
open Go.RowKit
set_option linter.unusedVariables false
set_option maxRecDepth 100000
set_option linter.unusedSimpArgs false

theorem toT (x y z : Int) (w : World) :
    Calls Try.prog 39 #[.agg #[.int .i64 x, .int .i64 y, .int .i64 z]] w fun e w' => e = .returned (.agg #[.int .i64 x, .int .i64 y, .int .i64 z]) ∧ Below w.heap.size w w' := by
  go_enter Try.func39, Try.ntmps39
  go_wp2
  refine bodyPost_ret (v := .agg #[.int .i64 x, .int .i64 y, .int .i64 z]) (by simp [results, Try.results39, go_sem]) rfl ⟨rfl, ?_⟩
  exact (((Below.refl _ _).alloc (Nat.le_refl _) _).alloc (by simp) _).alloc (by simp; omega) _
/-- A slice that reads as these points. -/
def SlT (w : World) (a : Option Addr) (l : List (Int × Int × Int)) : Prop := l = [] ∨ ∃ b off, a = some ⟨b, off, none⟩ ∧ b < w.heap.size ∧ ∀ i (h : i < l.length), w.cell? ⟨b, off + i * 3, none⟩ = some (.int .i64 l[i].1) ∧ w.cell? ⟨b, off + i * 3 + 1, none⟩ = some (.int .i64 l[i].2.1) ∧ w.cell? ⟨b, off + i * 3 + 2, none⟩ = some (.int .i64 l[i].2.2)
theorem SlT.later {w w' : World} {a : Option Addr} {l : List (Int × Int × Int)} (h : SlT w a l) (hb : Below w.heap.size w w') : SlT w' a l := by
  rcases h with h | ⟨b, off, rfl, h1, h2⟩
  · exact .inl h
  · exact .inr ⟨b, off, rfl, Nat.lt_of_lt_of_le h1 hb.size, fun i hi => ⟨cell_later hb ((h2 i hi).1), cell_later hb ((h2 i hi).2.1), cell_later hb ((h2 i hi).2.2)⟩⟩
/-- .. as an argument. -/
structure ArT (w : World) (a : Option Addr) (n c : Nat) (l : List (Int × Int × Int)) : Prop where
  sl : SlT w a l
  len : l.length = n
  cap : n ≤ c
  top : c ≤ maxLen
theorem ArT.later {w w' : World} {a : Option Addr} {n c : Nat} {l : List (Int × Int × Int)} (h : ArT w a n c l) (hb : Below w.heap.size w w') : ArT w' a n c l := ⟨h.sl.later hb, h.len, h.cap, h.top⟩
theorem szTs (a : Option Addr) (n c : Nat) (left : Int) (w : World) (hm : n ≤ maxLen) (h0 : 0 ≤ left) (h1 : left ≤ 1048576) :
    Calls Try.prog 35 #[.slice a n c, .int .i64 left] w fun e w' => Below w.heap.size w w' ∧ ((e = .returned (.int .i64 (-1)) ∧ left < n) ∨ (e = .returned (.int .i64 (left - n)) ∧ (n : Int) ≤ left)) := by
  unfold maxLen at hm
  have iw : IntKind.i64.wrap (left - (n : Int)) = left - (n : Int) := by rw [IntKind.wrap_i64]; omega
  by_cases c0 : left - (n : Int) < 0
  · have d0 : decide (left - (n : Int) < 0) = true := decide_eq_true c0
    go_enter Try.func35, Try.ntmps35
    go_wp2
    go_ret
    exact ⟨Below.refl _ _, .inl ⟨rfl, by omega⟩⟩
  · have d0 : decide (left - (n : Int) < 0) = false := decide_eq_false c0
    go_enter Try.func35, Try.ntmps35
    go_wp2
    go_ret
    exact ⟨Below.refl _ _, .inr ⟨rfl, by omega⟩⟩
theorem eqT (x y z : Int) (w : World) :
    Calls Try.prog 71 #[.agg #[.int .i64 x, .int .i64 y, .int .i64 z], .agg #[.int .i64 x, .int .i64 y, .int .i64 z]] w fun e w' => e = .returned (.bool true) ∧ Below w.heap.size w w' := by
  go_enter Try.func71, Try.ntmps71
  go_wp2
  go_ret
  exact ⟨rfl, ((Below.refl _ _).alloc (Nat.le_refl _) _).alloc (by simp) _⟩
theorem take_succT {l : List (Int × Int × Int)} {i : Nat} (h : i < l.length) : l.take (i + 1) = l.take i ++ [l[i]] := (List.take_append_getElem h).symm
set_option maxHeartbeats 4000000 in
theorem eqTs (a a' : Option Addr) (n c c' : Nat) (l : List (Int × Int × Int)) (w : World) (h : SlT w a l) (h' : SlT w a' l) (hn : l.length = n) (hm : n ≤ maxLen) :
    Calls Try.prog 32 #[.slice a n c, .slice a' n c'] w fun e w' => e = .returned (.bool true) ∧ Below w.heap.size w w' := by
  have HS := hide h
  have HS' := hide h'
  have HN := hide hn
  clear h hn h'
  unfold maxLen at hm
  go_enter Try.func32, Try.ntmps32
  go_wp2
  go_loopw [5] (fun iv wr => ∃ (i : Nat), i ≤ n ∧ iv = .int .i64 i ∧ Hid (Below w.heap.size w wr)) (fun iv _ => n - (intOf iv).toNat)
  case atStart => exact ⟨0, Nat.zero_le _, rfl, hide (Below.refl _ _)⟩
  case round =>
    obtain ⟨i, hi, rfl, HB⟩ := hrel
    by_cases hlt : i < n
    · have hlt' : (i : Int) < (n : Int) := by omega
      rcases (unhide HS) with e | ⟨b, off, rfl, hb, hc⟩
      · exact absurd (unhide HN) (by rw [e]; simp; omega)
      have e0 := hc i (by rw [unhide HN]; exact hlt)
      rcases (unhide HS') with e | ⟨b', off', rfl, hb', hc'⟩
      · exact absurd (unhide HN) (by rw [e]; simp; omega)
      have f0 := hc' i (by rw [unhide HN]; exact hlt)
      obtain ⟨y, hy⟩ : ∃ y, y = l[i]'(by rw [unhide HN]; exact hlt) := ⟨_, rfl⟩
      rw [← hy] at e0 f0
      clear hy hc hc'
      have E0 : wr.cell? ⟨b, off + i * 3, none⟩ = some (.int .i64 y.1) := ((unhide HB).cell (p := ⟨b, off + i * 3, none⟩) hb).trans (e0.1)
      have E1 : wr.cell? ⟨b, off + i * 3 + 1, none⟩ = some (.int .i64 y.2.1) := ((unhide HB).cell (p := ⟨b, off + i * 3 + 1, none⟩) hb).trans (e0.2.1)
      have E2 : wr.cell? ⟨b, off + i * 3 + 2, none⟩ = some (.int .i64 y.2.2) := ((unhide HB).cell (p := ⟨b, off + i * 3 + 2, none⟩) hb).trans (e0.2.2)
      have F0 : wr.cell? ⟨b', off' + i * 3, none⟩ = some (.int .i64 y.1) := ((unhide HB).cell (p := ⟨b', off' + i * 3, none⟩) hb').trans (f0.1)
      have F1 : wr.cell? ⟨b', off' + i * 3 + 1, none⟩ = some (.int .i64 y.2.1) := ((unhide HB).cell (p := ⟨b', off' + i * 3 + 1, none⟩) hb').trans (f0.2.1)
      have F2 : wr.cell? ⟨b', off' + i * 3 + 2, none⟩ = some (.int .i64 y.2.2) := ((unhide HB).cell (p := ⟨b', off' + i * 3 + 2, none⟩) hb').trans (f0.2.2)
      clear e0 f0
      go_upto_region 6 with fail
      go_region_held3 (fun w' => w'.cell? ⟨b, off + i * 3, none⟩ = some (.int .i64 y.1) ∧ w'.cell? ⟨b, off + i * 3 + 1, none⟩ = some (.int .i64 y.2.1) ∧ w'.cell? ⟨b, off + i * 3 + 2, none⟩ = some (.int .i64 y.2.2) ∧ w'.cell? ⟨b', off' + i * 3, none⟩ = some (.int .i64 y.1) ∧ w'.cell? ⟨b', off' + i * 3 + 1, none⟩ = some (.int .i64 y.2.1) ∧ w'.cell? ⟨b', off' + i * 3 + 2, none⟩ = some (.int .i64 y.2.2))
        (with_reducible (first | exact ⟨E0, E1, E2, F0, F1, F2⟩ | exact ⟨cdP E0, cdP E1, cdP E2, cdP F0, cdP F1, cdP F2⟩ | fail))
        (first
        | (go_at_call 71; refine (eqT y.1 y.2.1 y.2.2 _).mono ?_; rintro e w1 ⟨rfl, hb1⟩; have HB1 := hide (below_on (unhide HB) (below_of_drew hb1)); have hbx := below_of_drew hb1; replace E0 := cell_later hbx E0; replace E1 := cell_later hbx E1; replace F0 := cell_later hbx F0; replace F1 := cell_later hbx F1; replace E2 := cell_later hbx E2; replace F2 := cell_later hbx F2; clear hb1 hbx)
        | fail)
      clear E0 F0 E1 F1 E2 F2
      go_wp2
      go_roundw
      case rel => exact ⟨i + 1, by omega, by go_num, HB1⟩
      case measure => simp [intOf]; omega
    · obtain rfl : i = n := by omega
      go_wp2
      go_ret
      exact ⟨rfl, unhide HB⟩
/-- Points in a row of one's own, at block G. -/
structure OwT (w : World) (G n c : Nat) (l : List (Int × Int × Int)) : Prop where
  row : ∃ M, w.ownsRow G 33 3 (.slice (some ⟨G, 0, none⟩) n c) n M ∧ ∀ i (h : i < l.length), M[i * 3]? = some (.int .i64 l[i].1) ∧ M[i * 3 + 1]? = some (.int .i64 l[i].2.1) ∧ M[i * 3 + 2]? = some (.int .i64 l[i].2.2)
  len : l.length = n
theorem OwT.later {w w' : World} {G n c : Nat} {l : List (Int × Int × Int)} (h : OwT w G n c l) (hb : Below w.heap.size w w') : OwT w' G n c l := by
  obtain ⟨M, hr, hM⟩ := h.row
  exact ⟨⟨M, ownsRow_laterP hr hb, hM⟩, h.len⟩
theorem OwT.arg {w : World} {G n c : Nat} {l : List (Int × Int × Int)} (h : OwT w G n c l) : ArT w (some ⟨G, 0, none⟩) n c l := by
  obtain ⟨M, hr, hM⟩ := h.row
  have hl := h.len
  rcases hr.2 with ⟨h', _⟩ | ⟨g', cap, cur, hv, h1, hg, r1, r2, r3⟩
  · simp at h'
  simp only [Value.slice.injEq, Option.some.injEq, Addr.mk.injEq, and_true, true_and] at hv
  obtain ⟨rfl, rfl⟩ := hv
  refine ⟨.inr ⟨G, 0, rfl, (Array.getElem?_eq_some_iff.1 hg).1, fun i hi => ?_⟩, hl, r1, r2⟩
  have hc := hM i hi
  refine ⟨?_, ?_, ?_⟩ <;> rw [Nat.zero_add, hr.cellAt _ (by omega)]
  · exact hc.1
  · exact hc.2.1
  · exact hc.2.2
theorem but_rowT {w : World} {G k : Nat} {x y z : Value} : But G (G + 1) w (((w.setCell ⟨G, k * 3, none⟩ x).setCell ⟨G, k * 3 + 1, none⟩ y).setCell ⟨G, k * 3 + 2, none⟩ z) := ((((But.refl _ _ _).set (p := ⟨G, k * 3, none⟩) (Nat.le_refl G) (Nat.lt_succ_self G) x).set (p := ⟨G, k * 3 + 1, none⟩) (Nat.le_refl G) (Nat.lt_succ_self G) y).set (p := ⟨G, k * 3 + 2, none⟩) (Nat.le_refl G) (Nat.lt_succ_self G) z)
theorem infoTri : (Try.prog.info? 33).map (fun i => (i.zero, i.size, i.bytes)) = some (some (.agg #[.int .i64 0, .int .i64 0, .int .i64 0]), 3, 24) := by kernel_rfl
theorem set_rowT {M : List Value} {us : List (Int × Int × Int)} {n k : Nat} {x y z : Int} (hM : M.length = n * 3) (hk : k < n) (hu : us.length = k) (h : ∀ i (h : i < us.length), M[i * 3]? = some (.int .i64 us[i].1) ∧ M[i * 3 + 1]? = some (.int .i64 us[i].2.1) ∧ M[i * 3 + 2]? = some (.int .i64 us[i].2.2)) :
    ∀ i (h : i < (us ++ [(x, y, z)]).length), (((M.set (k * 3) (.int .i64 x)).set (k * 3 + 1) (.int .i64 y)).set (k * 3 + 2) (.int .i64 z))[i * 3]? = some (.int .i64 (us ++ [(x, y, z)])[i].1) ∧ (((M.set (k * 3) (.int .i64 x)).set (k * 3 + 1) (.int .i64 y)).set (k * 3 + 2) (.int .i64 z))[i * 3 + 1]? = some (.int .i64 (us ++ [(x, y, z)])[i].2.1) ∧ (((M.set (k * 3) (.int .i64 x)).set (k * 3 + 1) (.int .i64 y)).set (k * 3 + 2) (.int .i64 z))[i * 3 + 2]? = some (.int .i64 (us ++ [(x, y, z)])[i].2.2) := by
  intro i hi
  by_cases e : i < k
  · have hi' : i < us.length := by omega
    have h1 := h i hi'
    rw [List.getElem_append_left hi']
    simp only [List.getElem?_set]
    refine ⟨?_, ?_, ?_⟩
    · rw [if_neg (by omega), if_neg (by omega), if_neg (by omega)]; exact h1.1
    · rw [if_neg (by omega), if_neg (by omega), if_neg (by omega)]; exact h1.2.1
    · rw [if_neg (by omega), if_neg (by omega), if_neg (by omega)]; exact h1.2.2
  · obtain rfl : i = k := by simp at hi; omega
    subst hu
    rw [List.getElem_append_right (Nat.le_refl _)]
    simp only [Nat.sub_self, List.getElem_cons_zero]
    refine ⟨?_, ?_, ?_⟩
    · simp only [List.getElem?_set, List.length_set]; rw [if_neg (by omega), if_neg (by omega)]; rw [if_pos trivial, if_pos (by omega)]
    · simp only [List.getElem?_set, List.length_set]; rw [if_neg (by omega)]; rw [if_pos trivial, if_pos (by omega)]
    · simp only [List.getElem?_set, List.length_set]; rw [if_pos trivial, if_pos (by omega)]
set_option maxHeartbeats 4000000 in
theorem toTs (a : Option Addr) (n c : Nat) (l : List (Int × Int × Int)) (w : World) (h : SlT w a l) (hn : l.length = n) (h1 : n ≤ 1048576) :
    Calls Try.prog 37 #[.slice a n c] w fun e w' => e = .returned (.slice (some ⟨w.heap.size, 0, none⟩) n n) ∧ Below w.heap.size w w' ∧ OwT w' w.heap.size n n l := by
  obtain ⟨i0, hi, hz0, hz1, hz2⟩ := info_parts infoTri
  have HS := hide h
  have HN := hide hn
  clear h hn
  go_enter Try.func37, Try.ntmps37
  go_wp2_with (at_make; refine wpList_make_full _ rfl _ _ 29 rfl w.heap.size 33 i0 (.agg #[.int .i64 0, .int .i64 0, .int .i64 0]) 3 Try.underlying29 hi hz0 hz1 .i64 .i64 _ _ n rfl rfl rfl rfl ?c1 ?c2 ?c3 ?_)
  case c1 => rw [hz2]; omega
  case c2 => unfold maxLen; omega
  case c3 => exact Nat.le_refl _
  intro w1 hown hgrow
  have hb0 : Below w.heap.size w w1 := (Below.refl _ _).grown hgrow (Nat.le_refl _) (fun k e => by cases e)
  have P0 : Hid (∃ M, w1.ownsRow w.heap.size 33 3 (.slice (some ⟨w.heap.size, 0, none⟩) n n) n M) := hide ⟨_, hown⟩
  clear hown hgrow hi hz0 hz1 hz2
  have HB0 := hide hb0
  clear hb0
  go_wp2
  go_loopw [4] (fun iv wr => ∃ k : Nat, k ≤ n ∧ iv = .int .i64 k ∧ Hid (∃ M, wr.ownsRow w.heap.size 33 3 (.slice (some ⟨w.heap.size, 0, none⟩) n n) n M ∧ ∀ i (h : i < (l.take k).length), M[i * 3]? = some (.int .i64 (l.take k)[i].1) ∧ M[i * 3 + 1]? = some (.int .i64 (l.take k)[i].2.1) ∧ M[i * 3 + 2]? = some (.int .i64 (l.take k)[i].2.2)) ∧ Hid (Below w.heap.size w wr)) (fun iv _ => n - (intOf iv).toNat)
  case atStart =>
    obtain ⟨M, hM⟩ := unhide P0
    exact ⟨0, Nat.zero_le _, rfl, hide ⟨M, hM, fun i hi => absurd hi (by simp)⟩, HB0⟩
  case round =>
    clear P0 HB0
    obtain ⟨k, hk, rfl, EM, HB⟩ := hrel
    by_cases hlt : k < n
    · have hlt' : (k : Int) < (n : Int) := by omega
      rcases (unhide HS) with e | ⟨b, off, rfl, hb, hc⟩
      · exact absurd (unhide HN) (by rw [e]; simp; omega)
      have e0 := hc k (by rw [unhide HN]; exact hlt)
      obtain ⟨y, hy⟩ : ∃ y, y = l[k]'(by rw [unhide HN]; exact hlt) := ⟨_, rfl⟩
      rw [← hy] at e0
      have TK : Hid (l.take (k + 1) = l.take k ++ [(y.1, y.2.1, y.2.2)]) := hide (by have h := take_succT (l := l) (i := k) (by rw [unhide HN]; exact hlt); rw [← hy] at h; exact h)
      clear hy hc
      have E0 : wr.cell? ⟨b, off + k * 3, none⟩ = some (.int .i64 y.1) := ((unhide HB).cell (p := ⟨b, off + k * 3, none⟩) hb).trans (e0.1)
      have E1 : wr.cell? ⟨b, off + k * 3 + 1, none⟩ = some (.int .i64 y.2.1) := ((unhide HB).cell (p := ⟨b, off + k * 3 + 1, none⟩) hb).trans (e0.2.1)
      have E2 : wr.cell? ⟨b, off + k * 3 + 2, none⟩ = some (.int .i64 y.2.2) := ((unhide HB).cell (p := ⟨b, off + k * 3 + 2, none⟩) hb).trans (e0.2.2)
      clear e0
      go_wp2_with fail
      refine (toT y.1 y.2.1 y.2.2 _).mono ?_
      rintro e w2 ⟨rfl, hb2⟩
      have HB1 := hide (below_on (unhide HB) hb2)
      obtain ⟨M, hM, hL⟩ := unhide EM
      replace hM := ownsRow_laterP hM hb2
      have old0 : ∃ x, w2.cell? ⟨w.heap.size, k * 3, none⟩ = some x := by
        have hl := hM.1
        rw [hM.cellAt _ (by omega)]
        exact ⟨_, List.getElem?_eq_getElem (by omega)⟩
      obtain ⟨x0, o0⟩ := old0
      have old1 : ∃ x, w2.cell? ⟨w.heap.size, k * 3 + 1, none⟩ = some x := by
        have hl := hM.1
        rw [hM.cellAt _ (by omega)]
        exact ⟨_, List.getElem?_eq_getElem (by omega)⟩
      obtain ⟨x1, o1⟩ := old1
      have old2 : ∃ x, w2.cell? ⟨w.heap.size, k * 3 + 2, none⟩ = some x := by
        have hl := hM.1
        rw [hM.cellAt _ (by omega)]
        exact ⟨_, List.getElem?_eq_getElem (by omega)⟩
      obtain ⟨x2, o2⟩ := old2
      have fr : ∀ o, w2.frozen? ⟨w.heap.size, o, none⟩ = false := fun o => hM.frozenAt o
      have HM := hide hM
      have HL := hide hL
      clear hM hL hb2 EM E0 E1 E2
      go_wp2
      go_roundw
      case rel =>
        have hM := unhide HM
        refine ⟨k + 1, by omega, by go_num, hide ⟨_, (World.ownsRow.stored (World.ownsRow.stored (World.ownsRow.stored hM (k * 3) (.int .i64 y.1)).1 (k * 3 + 1) (.int .i64 y.2.1)).1 (k * 3 + 2) (.int .i64 y.2.2)).1, ?_⟩, hide ?_⟩
        · rw [unhide TK]
          exact set_rowT hM.1 hlt (by rw [List.length_take, unhide HN]; omega) (unhide HL)
        · exact but_rowT.below (unhide HB1) (Nat.le_refl _) (by have := (unhide HB1).size; omega)
      case measure => simp [intOf]; omega
    · obtain rfl : k = n := by omega
      go_wp2
      go_ret
      obtain ⟨M, hM, hL⟩ := unhide EM
      rw [← unhide HN, List.take_length] at hL
      exact ⟨rfl, unhide HB, ⟨M, hM, hL⟩, unhide HN⟩

theorem OwT.keep {w w' : World} {G n c lo hi : Nat} {l : List (Int × Int × Int)} (h : OwT w G n c l) (hb : But lo hi w w') (hG : G < lo ∨ hi ≤ G) : OwT w' G n c l := by
  obtain ⟨M, hr, hM⟩ := h.row
  refine ⟨⟨M, ⟨hr.1, ?_⟩, hM⟩, h.len⟩
  rcases hr.2 with ⟨h', _⟩ | ⟨g', cap, cur, hv, h1, hg, r⟩
  · simp at h'
  · refine .inr ⟨g', cap, cur, hv, h1, ?_, r⟩
    have e : g' = G := by simp only [Value.slice.injEq, Option.some.injEq, Addr.mk.injEq, and_true, true_and] at hv; exact hv.1.symm
    subst e
    rw [hb.block _ (Array.getElem?_eq_some_iff.1 hg).1 hG]
    exact hg
theorem OwT.lt {w : World} {G n c : Nat} {l : List (Int × Int × Int)} (h : OwT w G n c l) : G < w.heap.size := by
  obtain ⟨M, hr, _⟩ := h.row
  rcases hr.2 with ⟨h', _⟩ | ⟨g', cap, cur, hv, h1, hg, r⟩
  · simp at h'
  · have e : g' = G := by simp only [Value.slice.injEq, Option.some.injEq, Addr.mk.injEq, and_true, true_and] at hv; exact hv.1.symm
    subst e
    exact (Array.getElem?_eq_some_iff.1 hg).1
/-- n triangles that bear the numbers from k on. -/
def mk3 (k : Int) (n : Nat) : List (Int × Int × Int) := (List.range n).map (fun i : Nat => (k + 3 * (i : Int), k + 3 * (i : Int) + 1, k + 3 * (i : Int) + 2))
theorem mk3_len (k : Int) (n : Nat) : (mk3 k n).length = n := by simp [mk3]
theorem mk3_at {k : Int} {n i : Nat} (h : i < (mk3 k n).length) : (mk3 k n)[i] = (k + 3 * (i : Int), k + 3 * (i : Int) + 1, k + 3 * (i : Int) + 2) := by simp [mk3]
set_option maxHeartbeats 4000000 in
theorem markTs (G n c : Nat) (k : Int) (l : List (Int × Int × Int)) (w : World) (h : OwT w G n c l) (h1 : n ≤ 1048576) (k0 : 0 ≤ k) (k1 : k ≤ 1000000) :
    Calls Try.prog 33 #[.slice (some ⟨G, 0, none⟩) n c, .int .i64 k] w fun e w' => e = .returned (.int .i64 (k + 3 * n)) ∧ But G (G + 1) w w' ∧ OwT w' G n c (mk3 k n) := by
  have R0 := hide h.row
  clear h
  go_enter Try.func33, Try.ntmps33
  go_wp2
  go_loopw [1, 5] (fun kv iv wr => ∃ i : Nat, i ≤ n ∧ iv = .int .i64 i ∧ kv = .int .i64 (k + 3 * i) ∧ Hid (But G (G + 1) w wr) ∧ Hid (∃ M, wr.ownsRow G 33 3 (.slice (some ⟨G, 0, none⟩) n c) n M ∧ ∀ j (h : j < (mk3 k i).length), M[j * 3]? = some (.int .i64 (mk3 k i)[j].1) ∧ M[j * 3 + 1]? = some (.int .i64 (mk3 k i)[j].2.1) ∧ M[j * 3 + 2]? = some (.int .i64 (mk3 k i)[j].2.2))) (fun _ iv _ => n - (intOf iv).toNat)
  case atStart =>
    obtain ⟨M, hM, _⟩ := unhide R0
    exact ⟨0, Nat.zero_le _, rfl, by simp, hide (But.refl _ _ _), hide ⟨M, hM, fun j hj => absurd hj (by simp [mk3])⟩⟩
  case round =>
    obtain ⟨i, hi, rfl, rfl, HB, EM⟩ := hrel
    by_cases hlt : i < n
    · have hlt' : (i : Int) < (n : Int) := by omega
      obtain ⟨M, hM, hL⟩ := unhide EM
      have old0 : ∃ x, wr.cell? ⟨G, i * 3, none⟩ = some x := by
        have hl := hM.1
        rw [hM.cellAt _ (by omega)]
        exact ⟨_, List.getElem?_eq_getElem (by omega)⟩
      obtain ⟨x0, o0⟩ := old0
      have old1 : ∃ x, wr.cell? ⟨G, i * 3 + 1, none⟩ = some x := by
        have hl := hM.1
        rw [hM.cellAt _ (by omega)]
        exact ⟨_, List.getElem?_eq_getElem (by omega)⟩
      obtain ⟨x1, o1⟩ := old1
      have old2 : ∃ x, wr.cell? ⟨G, i * 3 + 2, none⟩ = some x := by
        have hl := hM.1
        rw [hM.cellAt _ (by omega)]
        exact ⟨_, List.getElem?_eq_getElem (by omega)⟩
      obtain ⟨x2, o2⟩ := old2
      have fr : ∀ o, wr.frozen? ⟨G, o, none⟩ = false := fun o => hM.frozenAt o
      have HM := hide hM
      have HL := hide hL
      have v1 : IntKind.i64.wrap (k + 3 * (i : Int) + 1) = k + 3 * (i : Int) + 1 := by rw [IntKind.wrap_i64]; omega
      have v3 : IntKind.i64.wrap (k + 3 * (i : Int) + 2 + 1) = k + 3 * (i : Int) + 3 := by rw [IntKind.wrap_i64]; omega
      have v2 : IntKind.i64.wrap (k + 3 * (i : Int) + 1 + 1) = k + 3 * (i : Int) + 2 := by rw [IntKind.wrap_i64]; omega
      clear hM hL EM
      go_wp2
      go_roundw
      case rel =>
        have hM := unhide HM
        refine ⟨i + 1, by omega, by go_num, by congr 1; omega, hide ((unhide HB).trans but_rowT), hide ⟨_, (World.ownsRow.stored (World.ownsRow.stored (World.ownsRow.stored hM (i * 3) (.int .i64 (k + 3 * (i : Int)))).1 (i * 3 + 1) (.int .i64 (k + 3 * (i : Int) + 1))).1 (i * 3 + 2) (.int .i64 (k + 3 * (i : Int) + 2))).1, ?_⟩⟩
        have em : mk3 k (i + 1) = mk3 k i ++ [(k + 3 * (i : Int), k + 3 * (i : Int) + 1, k + 3 * (i : Int) + 2)] := by simp [mk3, List.range_succ]
        rw [em]
        exact set_rowT hM.1 hlt (mk3_len k i) (unhide HL)
      case measure => simp [intOf]; omega
    · obtain rfl : i = n := by omega
      go_wp2
      go_ret
      exact ⟨rfl, unhide HB, unhide EM, mk3_len k i⟩
set_option maxHeartbeats 4000000 in
theorem heldTs (a : Option Addr) (n c : Nat) (k : Int) (w : World) (h : SlT w a (mk3 k n)) (h1 : n ≤ 1048576) (k0 : 0 ≤ k) (k1 : k ≤ 1000000) :
    Calls Try.prog 34 #[.slice a n c, .int .i64 k] w fun e w' => e = .returned (.int .i64 (k + 3 * n)) ∧ Below w.heap.size w w' := by
  have HS := hide h
  clear h
  go_enter Try.func34, Try.ntmps34
  go_wp2
  go_loopw [1, 5] (fun kv iv wr => ∃ i : Nat, i ≤ n ∧ iv = .int .i64 i ∧ kv = .int .i64 (k + 3 * i) ∧ Hid (Below w.heap.size w wr)) (fun _ iv _ => n - (intOf iv).toNat)
  case atStart => exact ⟨0, Nat.zero_le _, rfl, by simp, hide (Below.refl _ _)⟩
  case round =>
    obtain ⟨i, hi, rfl, rfl, HB⟩ := hrel
    by_cases hlt : i < n
    · have hlt' : (i : Int) < (n : Int) := by omega
      rcases (unhide HS) with e | ⟨b, off, rfl, hb, hc⟩
      · exact absurd (mk3_len k n) (by rw [e]; simp; omega)
      have e0 := hc i (by rw [mk3_len]; exact hlt)
      rw [mk3_at] at e0
      clear hc
      have E0 : wr.cell? ⟨b, off + i * 3, none⟩ = some (.int .i64 (k + 3 * (i : Int))) := ((unhide HB).cell (p := ⟨b, off + i * 3, none⟩) hb).trans (e0.1)
      have E1 : wr.cell? ⟨b, off + i * 3 + 1, none⟩ = some (.int .i64 (k + 3 * (i : Int) + 1)) := ((unhide HB).cell (p := ⟨b, off + i * 3 + 1, none⟩) hb).trans (e0.2.1)
      have E2 : wr.cell? ⟨b, off + i * 3 + 2, none⟩ = some (.int .i64 (k + 3 * (i : Int) + 2)) := ((unhide HB).cell (p := ⟨b, off + i * 3 + 2, none⟩) hb).trans (e0.2.2)
      clear e0
      have v1 : IntKind.i64.wrap (k + 3 * (i : Int) + 1) = k + 3 * (i : Int) + 1 := by rw [IntKind.wrap_i64]; omega
      have v3 : IntKind.i64.wrap (k + 3 * (i : Int) + 2 + 1) = k + 3 * (i : Int) + 3 := by rw [IntKind.wrap_i64]; omega
      have v2 : IntKind.i64.wrap (k + 3 * (i : Int) + 1 + 1) = k + 3 * (i : Int) + 2 := by rw [IntKind.wrap_i64]; omega
      go_wp2
      go_roundw
      case rel => exact ⟨i + 1, by omega, by go_num, by congr 1; omega, HB⟩
      case measure => simp [intOf]; omega
    · obtain rfl : i = n := by omega
      go_wp2
      go_ret
      exact ⟨rfl, unhide HB⟩
/-- An answer that is a slice of points of the call's own. -/
structure RtT (B : Nat) (w : World) (a : Option Addr) (n c : Nat) (l : List (Int × Int × Int)) : Prop where
  len : l.length = n
  own : (n = 0) ∨ ∃ G, a = some ⟨G, 0, none⟩ ∧ B ≤ G ∧ OwT w G n c l
theorem RtT.later {B : Nat} {w w' : World} {a : Option Addr} {n c : Nat} {l : List (Int × Int × Int)} (h : RtT B w a n c l) (hb : Below w.heap.size w w') : RtT B w' a n c l := by
  refine ⟨h.len, ?_⟩
  rcases h.own with h0 | ⟨G, e, hB, ho⟩
  · exact .inl h0
  · exact .inr ⟨G, e, hB, ho.later hb⟩
theorem RtT.keep {B G : Nat} {w w' : World} {a : Option Addr} {n c : Nat} {l : List (Int × Int × Int)} (h : RtT B w a n c l) (hb : But G (G + 1) w w') (hG : G < B) : RtT B w' a n c l := by
  refine ⟨h.len, ?_⟩
  rcases h.own with h0 | ⟨G', e, hB, ho⟩
  · exact .inl h0
  · exact .inr ⟨G', e, hB, ho.keep hb (.inr (by omega))⟩
theorem RtT.sl {B : Nat} {w : World} {a : Option Addr} {n c : Nat} {l : List (Int × Int × Int)} (h : RtT B w a n c l) : SlT w a l := by
  rcases h.own with h0 | ⟨G, rfl, hB, ho⟩
  · exact .inl (List.length_eq_zero_iff.1 (h.len.trans h0))
  · exact ho.arg.sl
/-- Marks of an answer: what lies below B stays. -/
theorem markRtT (B : Nat) (a : Option Addr) (n c : Nat) (k : Int) (l : List (Int × Int × Int)) (w : World) (h : RtT B w a n c l) (h1 : n ≤ 1048576) (k0 : 0 ≤ k) (k1 : k ≤ 1000000) (hB : B ≤ w.heap.size) :
    Calls Try.prog 33 #[.slice a n c, .int .i64 k] w fun e w' => e = .returned (.int .i64 (k + 3 * n)) ∧ Below B w w' ∧ RtT B w' a n c (mk3 k n) := by
  rcases h.own with h0 | ⟨G, rfl, hG, ho⟩
  · subst h0
    go_enter Try.func33, Try.ntmps33
    go_wp2
    refine wp_loop_rounds 1 ?_
    rw [rounds_succ]
    go_wp2
    go_ret
    exact ⟨by simp, Below.refl _ _, ⟨rfl, .inl rfl⟩⟩
  · refine (markTs G n c k l w ho h1 k0 k1).mono ?_
    rintro e w1 ⟨rfl, hb, o1⟩
    exact ⟨rfl, hb.below (Below.refl _ _) hG hB, ⟨mk3_len k n, .inr ⟨G, rfl, hG, o1⟩⟩⟩
end Go.Proofs.Ytblhjeepelgdaaa

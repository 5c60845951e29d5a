/- TurnAll and MovePts of the program. No condition beyond those typed. Written by mktm8.py. -/
import Derived.Test.YteconjkjpalomaaSeg8
namespace Go.Proofs.Yteconjkjpalomaa
open Go.RowKit
set_option linter.unusedVariables false
set_option maxRecDepth 100000
set_option linter.unusedSimpArgs false

/-- Of n points that come the other way round, the first k are laid. -/
def TvM (M : List Value) (l : List (Int × Int)) (n k : Nat) : Prop := ∀ i, i < k → M[((n - i) % n) * 2]? = some (.int .i64 (l.getD i (0, 0)).1) ∧ M[((n - i) % n) * 2 + 1]? = some (.int .i64 (l.getD i (0, 0)).2)
theorem back_at {n i : Nat} (h : i < n) : (n - i) % n = if i = 0 then 0 else n - i := by
  split
  · rename_i e; subst e; simp
  · exact Nat.mod_eq_of_lt (by omega)
theorem TvM.step {M : List Value} {l : List (Int × Int)} {n k : Nat} (hM : M.length = n * 2) (hk : k < n) (h : TvM M l n k) :
    TvM ((M.set (((n - k) % n) * 2) (.int .i64 (l.getD k (0, 0)).1)).set (((n - k) % n) * 2 + 1) (.int .i64 (l.getD k (0, 0)).2)) l n (k + 1) := by
  intro i hi
  have lt := Nat.mod_lt (n - k) (show 0 < n by omega)
  by_cases e : i < k
  · have h1 := h i e
    have ne : (n - i) % n ≠ (n - k) % n := by
      rw [back_at (show i < n by omega), back_at hk]
      split <;> split <;> omega
    simp only [List.getElem?_set]
    refine ⟨?_, ?_⟩
    · rw [if_neg (by omega), if_neg (by omega)]; exact h1.1
    · rw [if_neg (by omega), if_neg (by omega)]; exact h1.2
  · obtain rfl : i = k := by omega
    simp only [List.getElem?_set, List.length_set]
    refine ⟨?_, ?_⟩
    · rw [if_neg (by omega), if_pos trivial, if_pos (by omega)]
    · rw [if_pos trivial, if_pos (by omega)]
theorem tvN_at {l : List (Int × Int)} {n j : Nat} (hn : l.length = n) (h : j < (tvN l (n - 1)).length) : (tvN l (n - 1))[j] = l.getD ((n - j) % n) (0, 0) := by
  have hl := tvN_len l (n - 1)
  match j, h with
  | 0, h => simp [tvN]
  | j + 1, h =>
    have e1 : (n - (j + 1)) % n = n - (j + 1) := Nat.mod_eq_of_lt (by omega)
    simp only [tvN, List.getElem_cons_succ, List.getElem_map, List.getElem_range, hn, e1]
    congr 1
    omega
theorem TvM.rows {M : List Value} {l : List (Int × Int)} {n : Nat} (hn : l.length = n) (h : TvM M l n n) (h0 : 0 < n) : ∀ i (h : i < (tvN l (n - 1)).length), M[i * 2]? = some (.int .i64 (tvN l (n - 1))[i].1) ∧ M[i * 2 + 1]? = some (.int .i64 (tvN l (n - 1))[i].2) := by
  intro i hi
  have hl := tvN_len l (n - 1)
  rw [tvN_at hn hi]
  have lt := Nat.mod_lt (n - i) h0
  have k := h ((n - i) % n) lt
  have e : (n - (n - i) % n) % n = i := by
    rw [back_at (show i < n by omega)]
    split
    · rename_i e; subst e; simp
    · rw [Nat.mod_eq_of_lt (by omega)]; omega
  rw [e] at k
  exact k
set_option maxHeartbeats 8000000 in
theorem TurnAllI (a : Option Addr) (n c : Nat) (l : List (Int × Int)) (w : World) (h : ArP w a n c l) (h1 : n ≤ 1048576) :
    Calls Try.prog 11 #[.slice a n c] w fun e w' => ∃ a' n' c', e = .returned (.tuple #[.slice a' n' c', .bool (wayB l)]) ∧ Below w.heap.size w w' ∧ RtP w.heap.size w' a' n' c' (tvV l) ∧ n' ≤ 1048576 := by
  obtain ⟨i0, hi, hz0, hz1, hz2⟩ := info_parts infoPt
  have HS := hide h.sl
  have HN := hide h.len
  have C1 := hide (fun w (k : SlP w a l) => wayI a n c l w k h.len (by unfold maxLen; omega))
  clear h
  unfold tvV
  cases hg : wayB l
  · rw [hg] at C1
    go_enter Try.func11, Try.ntmps11
    go_wp2_with fail
    refine (unhide C1 _ (unhide HS)).mono ?_
    rintro e w1 ⟨rfl, hb⟩
    go_wp2_with fail
    go_ret2
    exact ⟨none, 0, 0, rfl, hb, ⟨rfl, .inl rfl⟩, by omega⟩
  · rw [hg] at C1
    have wp := (way_parts hg).1
    rw [unhide HN] at wp
    simp only [if_true]
    have z1 : ((n : Int) == 0) = false := by simp; omega
    have z2 : (n : Int) ≠ 0 := by omega
    have h0 : 0 < n := by omega
    go_enter Try.func11, Try.ntmps11
    go_wp2_with fail
    refine (unhide C1 _ (unhide HS)).mono ?_
    rintro e w1 ⟨rfl, hb⟩
    have HBw := hide hb
    have HS1 := hide ((unhide HS).later hb)
    clear hb C1 HS
    go_wp2_with (at_make; refine wpList_make_full _ rfl _ _ 23 rfl w1.heap.size 25 i0 (.agg #[.int .i64 0, .int .i64 0]) 2 Try.underlying23 hi hz0 hz1 .i64 .i64 _ _ n rfl rfl rfl rfl ?c1 ?c2 ?c3 ?_)
    case c1 => rw [hz2]; omega
    case c2 => unfold maxLen; omega
    case c3 => exact Nat.le_refl _
    intro w2 hown hgrow
    have hb0 : Below w1.heap.size w1 w2 := (Below.refl _ _).grown hgrow (Nat.le_refl _) (fun k e => by cases e)
    have P0 : Hid (∃ M, w2.ownsRow w1.heap.size 25 2 (.slice (some ⟨w1.heap.size, 0, none⟩) n n) n M) := hide ⟨_, hown⟩
    clear hown hgrow hi hz0 hz1 hz2
    have HB0 := hide hb0
    clear hb0
    go_wp2
    go_loopw [15] (fun iv wr => ∃ k : Nat, k ≤ n ∧ iv = .int .i64 k ∧ Hid (∃ M, wr.ownsRow w1.heap.size 25 2 (.slice (some ⟨w1.heap.size, 0, none⟩) n n) n M ∧ TvM M l n k) ∧ Hid (Below w1.heap.size w1 wr)) (fun iv _ => n - (intOf iv).toNat)
    case atStart =>
      obtain ⟨M, hM⟩ := unhide P0
      exact ⟨0, Nat.zero_le _, rfl, hide ⟨M, hM, fun i hi => absurd hi (by omega)⟩, HB0⟩
    case round =>
      clear P0 HB0
      obtain ⟨k, hk, rfl, EM, HB⟩ := hrel
      by_cases hlt : k < n
      · have hlt' : (k : Int) < (n : Int) := by omega
        rcases (unhide HS1) with e | ⟨b, off, rfl, hb, hc⟩
        · exact absurd (unhide HN) (by rw [e]; simp; omega)
        have e0 := hc k (by rw [unhide HN]; exact hlt)
        rw [← getD_gt (by rw [unhide HN]; exact hlt)] at e0
        have lt := Nat.mod_lt (n - k) h0
        have iw : IntKind.i64.wrap ((n : Int) - (k : Int)) = (n : Int) - (k : Int) := by rw [IntKind.wrap_i64]; omega
        have im : ((n : Int) - (k : Int)).tmod (n : Int) = (((n - k) % n : Nat) : Int) := by rw [← Int.ofNat_sub (by omega)]; rfl
        obtain ⟨M, hM, hL⟩ := unhide EM
        have HM := hide hM
        have STP := hide (hL.step hM.1 hlt)
        generalize (n - k) % n = j at *
        have j0 : (0 : Int) ≤ (j : Int) := by omega
        have j1 : (j : Int) < (n : Int) := by omega
        clear hc hL
        generalize l.getD k (0, 0) = p at *
        have E0 : wr.cell? ⟨b, off + k * 2, none⟩ = some (.int .i64 p.1) := ((unhide HB).cell (p := ⟨b, off + k * 2, none⟩) hb).trans (e0.1)
        have E1 : wr.cell? ⟨b, off + k * 2 + 1, none⟩ = some (.int .i64 p.2) := ((unhide HB).cell (p := ⟨b, off + k * 2 + 1, none⟩) hb).trans (e0.2)
        have lw : w1.heap.size < wr.heap.size := (row_lt8 hM)
        clear e0 hM EM
        go_upto_region 7 with fail
        have al : Below wr.heap.size wr (wr.alloc (.cells #[.int .i64 p.1, .int .i64 p.2] 25)) := (Below.refl _ _).alloc (Nat.le_refl _) _
        have k0 : (wr.alloc (.cells #[.int .i64 p.1, .int .i64 p.2] 25)).cell? ⟨wr.heap.size, 0, none⟩ = some (.int .i64 p.1) := by simp [go_sem]
        have k1 : (wr.alloc (.cells #[.int .i64 p.1, .int .i64 p.2] 25)).cell? ⟨wr.heap.size, 1, none⟩ = some (.int .i64 p.2) := by simp [go_sem]
        have HB1 := hide (below_on (unhide HB) al)
        have HM1 := hide (row_alloc8 (unhide HM) (.cells #[.int .i64 p.1, .int .i64 p.2] 25))
        have nw : wr.heap.size ≠ w1.heap.size := by omega
        clear al E0 E1 HM HB
        generalize wr.alloc (.cells #[.int .i64 p.1, .int .i64 p.2] 25) = w3 at *
        have hM := unhide HM1
        have hl := hM.1
        obtain ⟨x0, o0⟩ : ∃ x, w3.cell? ⟨w1.heap.size, j * 2, none⟩ = some x := by rw [hM.cellAt _ (by omega)]; exact ⟨_, List.getElem?_eq_getElem (by omega)⟩
        obtain ⟨x1, o1⟩ : ∃ x, w3.cell? ⟨w1.heap.size, j * 2 + 1, none⟩ = some x := by rw [hM.cellAt _ (by omega)]; exact ⟨_, List.getElem?_eq_getElem (by omega)⟩
        have fr : ∀ o, w3.frozen? ⟨w1.heap.size, o, none⟩ = false := fun o => hM.frozenAt o
        clear hM hl lw
        go_region
        go_wp2
        go_roundw
        case rel =>
          have hM := drew_row8 (unhide HM1)
          refine ⟨k + 1, by omega, by go_num, hide ⟨_, (World.ownsRow.stored (World.ownsRow.stored hM (j * 2) (.int .i64 p.1)).1 (j * 2 + 1) (.int .i64 p.2)).1, unhide STP⟩, hide ?_⟩
          exact but_rowP.below (unhide HB1).drew (Nat.le_refl _) (by have := (unhide HB1).size; exact this)
        case measure => simp [intOf]; omega
      · obtain rfl : k = n := by omega
        have EN : Hid (tvN l (l.length - 1) = tvN l (k - 1)) := hide (by rw [unhide HN])
        go_wp2
        go_ret2
        obtain ⟨M, hM, hL⟩ := unhide EM
        have lk : (tvN l (k - 1)).length = k := by rw [tvN_len]; omega
        refine ⟨_, k, k, rfl, below_on (unhide HBw) (unhide HB), ?_, by omega⟩
        rw [unhide EN]
        exact ⟨lk, .inr ⟨w1.heap.size, rfl, (unhide HBw).size, ⟨M, owns_mono hM (Nat.le_refl _), hL.rows (unhide HN) h0⟩, lk⟩⟩
/-- Of n moved points the first k are laid. -/
def MvM (M : List Value) (l : List (Int × Int)) (q : Int × Int) (k : Nat) : Prop := ∀ i, i < k → M[i * 2]? = some (.int .i64 ((l.getD i (0, 0)).1 + q.1)) ∧ M[i * 2 + 1]? = some (.int .i64 ((l.getD i (0, 0)).2 + q.2))
theorem MvM.step {M : List Value} {l : List (Int × Int)} {q : Int × Int} {n k : Nat} (hM : M.length = n * 2) (hk : k < n) (h : MvM M l q k) :
    MvM ((M.set (k * 2) (.int .i64 ((l.getD k (0, 0)).1 + q.1))).set (k * 2 + 1) (.int .i64 ((l.getD k (0, 0)).2 + q.2))) l q (k + 1) := by
  intro i hi
  by_cases e : i < k
  · have h1 := h i e
    simp only [List.getElem?_set]
    refine ⟨?_, ?_⟩
    · rw [if_neg (by omega), if_neg (by omega)]; exact h1.1
    · rw [if_neg (by omega), if_neg (by omega)]; exact h1.2
  · obtain rfl : i = k := by omega
    simp only [List.getElem?_set, List.length_set]
    refine ⟨?_, ?_⟩
    · rw [if_neg (by omega), if_pos trivial, if_pos (by omega)]
    · rw [if_pos trivial, if_pos (by omega)]
theorem MvM.rows {M : List Value} {l : List (Int × Int)} {q : Int × Int} {n : Nat} (hn : l.length = n) (h : MvM M l q n) : ∀ i (h : i < (mvL l q).length), M[i * 2]? = some (.int .i64 (mvL l q)[i].1) ∧ M[i * 2 + 1]? = some (.int .i64 (mvL l q)[i].2) := by
  intro i hi
  have hi' : i < l.length := by simpa [mvL] using hi
  have k := h i (by omega)
  rw [getD_gt hi'] at k
  simpa [mvL] using k
theorem way_mv {l : List (Int × Int)} {q : Int × Int} (h : wayB l = true) : wayB (mvL l q) = (mvL l q).all gPt := by
  unfold wayB at h ⊢
  have h2 := ((Bool.and_eq_true _ _).mp h).1
  have e : (mvL l q).length = l.length := by simp [mvL]
  rw [e, h2, Bool.true_and]
end Go.Proofs.Yteconjkjpalomaa

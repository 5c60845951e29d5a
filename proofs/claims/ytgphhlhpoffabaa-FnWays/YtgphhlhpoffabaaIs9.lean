/- Chapter 9 of the program: ways split. No condition beyond those typed. Written by mkis9.py. -/
import Derived.Test.YtgphhlhpoffabaaSeg8
import Derived.Test.YtgphhlhpoffabaaSpl9
import Derived.Test.YtgphhlhpoffabaaPtM2
namespace Go.Proofs.Ytgphhlhpoffabaa
open Go.RowKit
set_option linter.unusedVariables false
set_option maxRecDepth 100000
set_option linter.unusedSimpArgs false

/-- m points of a way round, from the one numbered x on. -/
def rnd (l : List (Int × Int)) (x m : Nat) : List (Int × Int) := (List.range m).map fun i => l.getD ((x + i) % l.length) (0, 0)
theorem rnd_len (l : List (Int × Int)) (x m : Nat) : (rnd l x m).length = m := by unfold rnd; simp
def RnM (M : List Value) (l : List (Int × Int)) (x k : Nat) : Prop := ∀ i, i < k → M[i * 2]? = some (.int .i64 (l.getD ((x + i) % l.length) (0, 0)).1) ∧ M[i * 2 + 1]? = some (.int .i64 (l.getD ((x + i) % l.length) (0, 0)).2)
theorem RnM.step {M : List Value} {l : List (Int × Int)} {x n k : Nat} (hM : M.length = n * 2) (hk : k < n) (h : RnM M l x k) :
    RnM ((M.set (k * 2) (.int .i64 (l.getD ((x + k) % l.length) (0, 0)).1)).set (k * 2 + 1) (.int .i64 (l.getD ((x + k) % l.length) (0, 0)).2)) l x (k + 1) := by
  intro i hi
  by_cases e : i < k
  · have h1 := h i e
    simp only [List.getElem?_set]
    refine ⟨?_, ?_⟩
    · rw [if_neg (by omega), if_neg (by omega)]; exact h1.1
    · rw [if_neg (by omega), if_neg (by omega)]; exact h1.2
  · obtain rfl : i = k := by omega
    simp only [List.getElem?_set, List.length_set]
    refine ⟨?_, ?_⟩
    · rw [if_neg (by omega), if_pos trivial, if_pos (by omega)]
    · rw [if_pos trivial, if_pos (by omega)]
theorem RnM.rows {M : List Value} {l : List (Int × Int)} {x m : Nat} (h : RnM M l x m) : ∀ i (h : i < (rnd l x m).length), M[i * 2]? = some (.int .i64 (rnd l x m)[i].1) ∧ M[i * 2 + 1]? = some (.int .i64 (rnd l x m)[i].2) := by
  intro i hi
  have k := h i (by rw [rnd_len] at hi; exact hi)
  have e : (rnd l x m)[i] = l.getD ((x + i) % l.length) (0, 0) := by simp only [rnd, List.getElem_map, List.getElem_range]
  rw [e]
  exact k
set_option maxHeartbeats 4000000 in
theorem roundI (a : Option Addr) (n c x y N : Nat) (l : List (Int × Int)) (w : World) (h : SlP w a l) (hn : l.length = n) (h12 : n ≤ 12) (hx : x < n) (hy : y < n) (hN : N = (y + n - x) % n + 1) :
    Calls Try.prog 60 #[.slice a n c, .int .i64 x, .int .i64 y] w fun e w' => e = .returned (.slice (some ⟨w.heap.size, 0, none⟩) N N) ∧ Below w.heap.size w w' ∧ OwP w' w.heap.size N N (rnd l x N) := by
  obtain ⟨i0, hi, hz0, hz1, hz2⟩ := info_parts infoPt
  have HS := hide h
  have HN := hide hn
  have h0 : 0 < n := by omega
  have z1 : ((n : Int) == 0) = false := by simp; omega
  have z2 : (n : Int) ≠ 0 := by omega
  have lm := Nat.mod_lt (y + n - x) h0
  have i1 : IntKind.i64.wrap ((y : Int) - (x : Int)) = (y : Int) - (x : Int) := by rw [IntKind.wrap_i64]; omega
  have i2 : IntKind.i64.wrap ((y : Int) - (x : Int) + (n : Int)) = ((y + n - x : Nat) : Int) := by rw [IntKind.wrap_i64]; omega
  have i3 : ((y + n - x : Nat) : Int).tmod (n : Int) = (((y + n - x) % n : Nat) : Int) := rfl
  have i4 : IntKind.i64.wrap (((y + n - x) % n : Nat) : Int) = (((y + n - x) % n : Nat) : Int) := by rw [IntKind.wrap_i64]; omega
  have i5 : IntKind.i64.wrap ((((y + n - x) % n : Nat) : Int) + 1) = (N : Int) := by rw [IntKind.wrap_i64]; omega
  have bN : N ≤ 12 := by omega
  clear h hn hN lm
  generalize (y + n - x) % n = m at *
  generalize y + n - x = q at *
  go_enter Try.func60, Try.ntmps60
  go_wp2_with (at_make; refine wpList_make_full _ rfl _ _ 23 rfl w.heap.size 25 i0 (.agg #[.int .i64 0, .int .i64 0]) 2 Try.underlying23 hi hz0 hz1 .i64 .i64 _ _ N rfl rfl rfl rfl ?c1 ?c2 ?c3 ?_)
  case c1 => rw [hz2]; omega
  case c2 => unfold maxLen; omega
  case c3 => exact Nat.le_refl _
  intro w2 hown hgrow
  have hb0 : Below w.heap.size w w2 := (Below.refl _ _).grown hgrow (Nat.le_refl _) (fun k e => by cases e)
  have P0 : Hid (∃ M, w2.ownsRow w.heap.size 25 2 (.slice (some ⟨w.heap.size, 0, none⟩) N N) N M) := hide ⟨_, hown⟩
  clear hown hgrow hi hz0 hz1 hz2 i1 i2 i3 i4 i5
  have HB0 := hide hb0
  clear hb0
  go_wp2
  go_loopw [22] (fun iv wr => ∃ k : Nat, k ≤ N ∧ iv = .int .i64 k ∧ Hid (∃ M, wr.ownsRow w.heap.size 25 2 (.slice (some ⟨w.heap.size, 0, none⟩) N N) N M ∧ RnM M l x k) ∧ Hid (Below w.heap.size w wr)) (fun iv _ => N - (intOf iv).toNat)
  case atStart =>
    obtain ⟨M, hM⟩ := unhide P0
    exact ⟨0, Nat.zero_le _, rfl, hide ⟨M, hM, fun i hi => absurd hi (by omega)⟩, HB0⟩
  case round =>
    clear P0 HB0
    obtain ⟨k, hk, rfl, EM, HB⟩ := hrel
    by_cases hlt : k < N
    · have hlt' : (k : Int) < (N : Int) := by omega
      rcases (unhide HS) with e | ⟨b, off, rfl, hb, hc⟩
      · exact absurd (unhide HN) (by rw [e]; simp; omega)
      have lt := Nat.mod_lt (x + k) h0
      have e0 := hc ((x + k) % n) (by rw [unhide HN]; exact lt)
      rw [← getD_gt (by rw [unhide HN]; exact lt)] at e0
      have iw : IntKind.i64.wrap ((x : Int) + (k : Int)) = (x : Int) + (k : Int) := by rw [IntKind.wrap_i64]; omega
      have im : ((x : Int) + (k : Int)).tmod (n : Int) = (((x + k) % n : Nat) : Int) := by rw [← Int.natCast_add]; rfl
      obtain ⟨M, hM, hL⟩ := unhide EM
      have HM := hide hM
      have STP := hide (hL.step hM.1 hlt)
      rw [unhide HN] at STP
      generalize (x + k) % n = j at *
      have j0 : (0 : Int) ≤ (j : Int) := by omega
      have j1 : (j : Int) < (n : Int) := by omega
      have j2 : IntKind.i64.wrap (j : Int) = (j : Int) := by rw [IntKind.wrap_i64]; omega
      clear hc hL
      generalize l.getD j (0, 0) = p at *
      have E0 : wr.cell? ⟨b, off + j * 2, none⟩ = some (.int .i64 p.1) := ((unhide HB).cell (p := ⟨b, off + j * 2, none⟩) hb).trans (e0.1)
      have E1 : wr.cell? ⟨b, off + j * 2 + 1, none⟩ = some (.int .i64 p.2) := ((unhide HB).cell (p := ⟨b, off + j * 2 + 1, none⟩) hb).trans (e0.2)
      have hl := hM.1
      have nb : b ≠ w.heap.size := by omega
      obtain ⟨x0, o0⟩ : ∃ x, wr.cell? ⟨w.heap.size, k * 2, none⟩ = some x := by rw [hM.cellAt _ (by omega)]; exact ⟨_, List.getElem?_eq_getElem (by omega)⟩
      obtain ⟨x1, o1⟩ : ∃ x, wr.cell? ⟨w.heap.size, k * 2 + 1, none⟩ = some x := by rw [hM.cellAt _ (by omega)]; exact ⟨_, List.getElem?_eq_getElem (by omega)⟩
      have fr : ∀ o, wr.frozen? ⟨w.heap.size, o, none⟩ = false := fun o => hM.frozenAt o
      clear e0 hM EM hl
      go_wp2
      go_roundw
      case rel =>
        refine ⟨k + 1, by omega, by go_num, hide ⟨_, (World.ownsRow.stored (World.ownsRow.stored (unhide HM) (k * 2) (.int .i64 p.1)).1 (k * 2 + 1) (.int .i64 p.2)).1, unhide STP⟩, hide ?_⟩
        exact but_rowP.below (unhide HB) (Nat.le_refl _) (by have := (unhide HB).size; exact this)
      case measure => simp [intOf]; omega
    · obtain rfl : k = N := by omega
      go_wp2
      go_ret
      obtain ⟨M, hM, hL⟩ := unhide EM
      exact ⟨rfl, unhide HB, ⟨M, hM, hL.rows⟩, rnd_len _ _ _⟩
theorem OwP.lt9 {w : World} {G n c : Nat} {l : List (Int × Int)} (h : OwP w G n c l) : G < w.heap.size := by
  obtain ⟨M, hM, -⟩ := h.row
  exact row_lt8 hM
def csB (n x y : Int) : Bool := !(decide (x < 0) || decide (n ≤ y) || decide (y ≤ x)) && (decide (1 < y - x) && decide (y - x < n - 1))
set_option maxHeartbeats 1000000 in
theorem canI (n : Nat) (x y : Int) (w : World) (hn : n ≤ 12) (hx : -9223372036854775808 ≤ x ∧ x ≤ 9223372036854775807) (hy : -9223372036854775808 ≤ y ∧ y ≤ 9223372036854775807) :
    Calls Try.prog 59 #[.int .i64 n, .int .i64 x, .int .i64 y] w fun e w' => e = .returned (.bool (csB n x y)) ∧ w' = w := by
  unfold csB
  by_cases c0 : x < 0
  · have d0 : decide (x < 0) = true := decide_eq_true c0
    rw [d0]
    go_enter Try.func59, Try.ntmps59
    go_wp2
    go_ret
    exact ⟨rfl, rfl⟩
  · have d0 : decide (x < 0) = false := decide_eq_false c0
    rw [d0]
    by_cases c1 : (n : Int) ≤ y
    · have d1 : decide ((n : Int) ≤ y) = true := decide_eq_true c1
      rw [d1]
      go_enter Try.func59, Try.ntmps59
      go_wp2
      go_ret
      exact ⟨rfl, rfl⟩
    · have d1 : decide ((n : Int) ≤ y) = false := decide_eq_false c1
      rw [d1]
      by_cases c2 : y ≤ x
      · have d2 : decide (y ≤ x) = true := decide_eq_true c2
        rw [d2]
        go_enter Try.func59, Try.ntmps59
        go_wp2
        go_ret
        exact ⟨rfl, rfl⟩
      · have d2 : decide (y ≤ x) = false := decide_eq_false c2
        rw [d2]
        have i1 : IntKind.i64.wrap (y - x) = y - x := by rw [IntKind.wrap_i64]; omega
        have i2 : IntKind.i64.wrap ((n : Int) - 1) = (n : Int) - 1 := by rw [IntKind.wrap_i64]; omega
        by_cases c3 : 1 < y - x
        · have d3 : decide (1 < y - x) = true := decide_eq_true c3
          rw [d3]
          have HD := hide (rfl : decide (y - x < (n : Int) - 1) = decide (y - x < (n : Int) - 1))
          go_enter Try.func59, Try.ntmps59
          go_wp2
          go_ret
          exact ⟨by simp, rfl⟩
        · have d3 : decide (1 < y - x) = false := decide_eq_false c3
          rw [d3]
          go_enter Try.func59, Try.ntmps59
          go_wp2
          go_ret
          exact ⟨rfl, rfl⟩
theorem spB_cs {l : List (Int × Int)} {n : Nat} {x y : Int} (hg : wayB l = true) (hn : l.length = n) : spB l x y = csB n x y := by
  unfold spB csB
  rw [hg, hn, Bool.eq_iff_iff]
  simp only [Bool.true_and, Bool.and_eq_true, Bool.not_eq_true', Bool.or_eq_false_iff, decide_eq_true_eq, decide_eq_false_iff_not, Bool.and_eq_false_iff, beq_eq_false_iff_ne, ne_eq]
  omega
theorem rnd_one {l : List (Int × Int)} {n x y : Nat} (hn : l.length = n) (h1 : x < y) (h2 : y < n) : rnd l x ((y + n - x) % n + 1) = (l.drop x).take (y + 1 - x) := by
  have e : (y + n - x) % n = y - x := by rw [show y + n - x = y - x + n by omega, Nat.add_mod_right, Nat.mod_eq_of_lt (by omega)]
  rw [e]
  apply List.ext_getElem
  · rw [rnd_len]; simp; omega
  · intro i h3 h4
    rw [rnd_len] at h3
    simp only [rnd, List.getElem_map, List.getElem_range, List.getElem_take, List.getElem_drop, hn]
    rw [Nat.mod_eq_of_lt (by omega), getD_gt (by omega)]
theorem rnd_two {l : List (Int × Int)} {n x y : Nat} (hn : l.length = n) (h1 : x < y) (h2 : y < n) : rnd l y ((x + n - y) % n + 1) = l.drop y ++ l.take (x + 1) := by
  have e : (x + n - y) % n = x + n - y := Nat.mod_eq_of_lt (by omega)
  rw [e]
  apply List.ext_getElem
  · rw [rnd_len]; simp; omega
  · intro i h3 h4
    rw [rnd_len] at h3
    simp only [rnd, List.getElem_map, List.getElem_range, hn]
    by_cases hi : i < n - y
    · rw [List.getElem_append_left (by simp; omega), List.getElem_drop, Nat.mod_eq_of_lt (by omega), getD_gt (by omega)]
    · rw [List.getElem_append_right (by simp; omega)]
      simp only [List.getElem_take, List.length_drop, hn]
      have e2 : (y + i) % n = i - (n - y) := by rw [show y + i = i - (n - y) + n by omega, Nat.add_mod_right, Nat.mod_eq_of_lt (by omega)]
      rw [getD_gt (by rw [e2]; omega)]
      congr 1
set_option maxHeartbeats 4000000 in
theorem SplitWayI (a : Option Addr) (n c : Nat) (l : List (Int × Int)) (x y : Int) (w : World) (h : ArP w a n c l) (h1 : n ≤ 1048576) (hx : -9223372036854775808 ≤ x ∧ x ≤ 9223372036854775807) (hy : -9223372036854775808 ≤ y ∧ y ≤ 9223372036854775807) :
    Calls Try.prog 26 #[.slice a n c, .int .i64 x, .int .i64 y] w fun e w' => ∃ a1 n1 c1 a2 n2 c2, e = .returned (.tuple #[.slice a1 n1 c1, .slice a2 n2 c2, .bool (spB l x y)]) ∧ Below w.heap.size w w' ∧ RtP2 w.heap.size w' a1 n1 c1 (sp1 l x y) a2 n2 c2 (sp2 l x y) ∧ n1 + n2 ≤ 100000 := by
  have hn := h.len
  have C1 := hide (fun w (k : SlP w a l) => wayI a n c l w k hn (by unfold maxLen; omega))
  have HS := hide h.sl
  clear h
  cases hg : wayB l
  · rw [hg] at C1
    have EB : spB l x y = false := by unfold spB; rw [hg]; rfl
    obtain ⟨E1, E2⟩ := sp_no EB
    rw [E1, E2, EB]
    clear E1 E2 EB
    go_enter Try.func26, Try.ntmps26
    go_wp2_with fail
    refine (unhide C1 _ (unhide HS)).mono ?_
    rintro e w1 ⟨rfl, hb⟩
    go_wp2_with fail
    refine bodyPost_ret (v := .tuple #[.slice none 0 0, .slice none 0 0, .bool false]) (by simp [results, Try.results26, go_sem]) rfl ?_
    exact ⟨none, 0, 0, none, 0, 0, rfl, hb, ⟨⟨rfl, .inl rfl⟩, ⟨rfl, .inl rfl⟩, fun _ e => by cases e⟩, by omega⟩
  · rw [hg] at C1
    have ln := (way_parts hg).1
    rw [hn] at ln
    have C2 := hide (fun w => canI n x y w (by omega) hx hy)
    rw [← spB_cs hg hn] at C2
    cases hb : spB l x y
    · rw [hb] at C2
      obtain ⟨E1, E2⟩ := sp_no hb
      rw [E1, E2]
      clear E1 E2 hb hg
      go_enter Try.func26, Try.ntmps26
      go_wp2_with fail
      refine (unhide C1 _ (unhide HS)).mono ?_
      rintro e w1 ⟨rfl, hb⟩
      have HB := hide hb
      clear hb
      go_wp2_with fail
      refine (unhide C2 _).mono ?_
      rintro e w2 ⟨rfl, rfl⟩
      go_wp2_with fail
      refine bodyPost_ret (v := .tuple #[.slice none 0 0, .slice none 0 0, .bool false]) (by simp [results, Try.results26, go_sem]) rfl ?_
      exact ⟨none, 0, 0, none, 0, 0, rfl, unhide HB, ⟨⟨rfl, .inl rfl⟩, ⟨rfl, .inl rfl⟩, fun _ e => by cases e⟩, by omega⟩
    · rw [hb] at C2
      have pp : (0 ≤ x ∧ x < y) ∧ y < (n : Int) := by
        have := hb
        rw [spB_cs hg hn] at this
        unfold csB at this
        simp at this
        omega
      obtain ⟨X, rfl⟩ : ∃ X : Nat, x = (X : Int) := ⟨x.toNat, by omega⟩
      obtain ⟨Y, rfl⟩ : ∃ Y : Nat, y = (Y : Int) := ⟨y.toNat, by omega⟩
      have xy : X < Y := by omega
      have yn : Y < n := by omega
      have V1 : Hid (sp1 l X Y = rnd l X ((Y + n - X) % n + 1)) := hide (by rw [rnd_one hn xy yn]; unfold sp1; rw [hb]; simp)
      have V2 : Hid (sp2 l X Y = rnd l Y ((X + n - Y) % n + 1)) := hide (by rw [rnd_two hn xy yn]; unfold sp2; rw [hb]; simp)
      have m1 := Nat.mod_lt (Y + n - X) (show 0 < n by omega)
      have m2 := Nat.mod_lt (X + n - Y) (show 0 < n by omega)
      have C3 := hide (fun w (k : SlP w a l) => roundI a n c X Y _ l w k hn (by omega) (by omega) yn rfl)
      have C4 := hide (fun w (k : SlP w a l) => roundI a n c Y X _ l w k hn (by omega) yn (by omega) rfl)
      have bN : (Y + n - X) % n + 1 + ((X + n - Y) % n + 1) ≤ 100000 := by omega
      generalize (Y + n - X) % n + 1 = N1 at *
      generalize (X + n - Y) % n + 1 = N2 at *
      clear pp hb hg m1 m2
      go_enter Try.func26, Try.ntmps26
      go_wp2_with fail
      refine (unhide C1 _ (unhide HS)).mono ?_
      rintro e w1 ⟨rfl, hb⟩
      have HB := hide hb
      replace HS := hide ((unhide HS).later hb)
      clear hb
      go_wp2_with fail
      refine (unhide C2 _).mono ?_
      rintro e w2 ⟨rfl, rfl⟩
      go_wp2_with fail
      refine (unhide C3 _ (unhide HS)).mono ?_
      rintro e w3 ⟨rfl, hb, o1⟩
      replace HS := hide ((unhide HS).later hb)
      have sz : w.heap.size ≤ w2.heap.size := (unhide HB).size
      have lt : w2.heap.size < w3.heap.size := o1.lt9
      replace HB := hide (below_on (unhide HB) hb)
      have O1 := hide o1
      clear hb o1
      generalize w2.heap.size = G1 at *
      go_wp2_with fail
      refine (unhide C4 _ (unhide HS)).mono ?_
      rintro e w4 ⟨rfl, hb, o2⟩
      replace HB := hide (below_on (unhide HB) hb)
      replace O1 := hide ((unhide O1).later hb)
      have O2 := hide o2
      clear hb o2
      generalize w3.heap.size = G2 at *
      go_wp2_with fail
      refine bodyPost_ret (v := .tuple #[.slice (some ⟨G1, 0, none⟩) N1 N1, .slice (some ⟨G2, 0, none⟩) N2 N2, .bool true]) (by simp [results, Try.results26, go_sem]) rfl ?_
      refine ⟨_, N1, N1, _, N2, N2, rfl, unhide HB, ?_, bN⟩
      rw [unhide V1, unhide V2]
      exact ⟨⟨rnd_len _ _ _, .inr ⟨G1, rfl, sz, unhide O1⟩⟩, ⟨rnd_len _ _ _, .inr ⟨G2, rfl, by omega, unhide O2⟩⟩, fun G e1 e2 => by injection e1 with e1; injection e2 with e2; injection e1 with e1; injection e2 with e2; omega⟩
end Go.Proofs.Ytgphhlhpoffabaa

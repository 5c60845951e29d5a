/- Products by halves: the specification's l1Halves answers the product. No condition beyond those typed. -/
import Derived.Test.YtifiphoapjjhiaaAddT
namespace Go.Proofs.Ytifiphoapjjhiaa
open Go.RowKit
set_option linter.unusedVariables false
set_option linter.unusedSimpArgs false

theorem cells_all {w : World} {b off : Nat} {xs : List Int} (hc : ∀ i, i < xs.length → w.cell? ⟨b, off + i, none⟩ = some (.int .i64 (xs.getD i 0))) :
    ∀ j u, (xs.map (Value.int .i64))[j]? = some u → w.cell? ((⟨b, off, none⟩ : Addr).add j) = some u := by
  have := cells_at (w := w) (b := b) (off := off) (k := xs.length) (xs := xs) hc (Nat.le_refl _)
  rwa [List.take_length] at this
set_option maxHeartbeats 2000000 in
theorem lowS_any (a : Option Addr) (n c h : Nat) (xs : List Int) (w : World) (hx : Arg w a n c xs) (h1 : n ≤ 1048576) (hh : h ≤ 1000000) :
    Calls Try.prog 88 #[.slice a n c, .int .i64 h] w fun e w' => ∃ a1 n1 c1, e = .returned (.slice a1 n1 c1) ∧ Below w.heap.size w w' ∧ Arg w' a1 n1 c1 (trim (xs.take h)) := by
  by_cases hle : n ≤ h
  · have HX := hide hx
    have HE : Hid (xs.take h = xs) := hide (List.take_of_length_le (by rw [hx.len]; exact hle))
    have e1 : (n : Int) ≤ (h : Int) := by omega
    clear hx
    go_enter Try.func88, Try.ntmps88
    go_wp2_with fail
    refine (cut_any a n c xs w (unhide HX) h1).mono ?_
    rintro e w1 ⟨a1, n1, c1, rfl, hb, ho, ha⟩
    have HF := hide (And.intro hb ha)
    clear hb ho ha
    go_wp2_with fail
    go_ret
    exact ⟨a1, n1, c1, rfl, (unhide HF).1, by rw [unhide HE]; exact (unhide HF).2⟩
  · rcases hx.addr with ⟨rfl, rfl⟩ | ⟨b, off, rfl⟩
    · have := hx.cap; omega
    · have hcm := hx.top
      have hnc := hx.cap
      unfold maxLen at hcm
      have HX := hide hx
      have e1 : ¬ (n : Int) ≤ (h : Int) := by omega
      have e2 : (h : Int) ≤ (c : Int) := by omega
      have e3 : h ≤ c := by omega
      have e4 : (0 : Int) ≤ (h : Int) := by omega
      have HT : Hid ((xs.take h).length = h) := hide (by rw [List.length_take, hx.len]; omega)
      clear hx
      go_enter Try.func88, Try.ntmps88
      go_wp2_with fail
      refine (cut_any _ h c (xs.take h) w ⟨(unhide HX).sl.take h, unhide HT, e3, by unfold maxLen; omega, .inr ⟨_, _, rfl⟩⟩ (by omega)).mono ?_
      rintro e w1 ⟨a1, n1, c1, rfl, hb, ho, ha⟩
      have HF := hide (And.intro hb ha)
      clear hb ho ha
      go_wp2_with fail
      go_ret
      exact ⟨a1, n1, c1, rfl, (unhide HF).1, (unhide HF).2⟩
set_option maxHeartbeats 2000000 in
theorem highS_any (a : Option Addr) (n c h : Nat) (xs : List Int) (w : World) (hx : Arg w a n c xs) (tx : trim xs = xs) (h1 : n ≤ 1048576) (hh : h ≤ 1000000) :
    Calls Try.prog 89 #[.slice a n c, .int .i64 h] w fun e w' => ∃ a1 n1 c1, e = .returned (.slice a1 n1 c1) ∧ Below w.heap.size w w' ∧ Arg w' a1 n1 c1 (xs.drop h) := by
  by_cases hle : n ≤ h
  · have HE : Hid (xs.drop h = []) := hide (List.drop_of_length_le (by rw [hx.len]; exact hle))
    have e1 : (n : Int) ≤ (h : Int) := by omega
    clear hx
    go_enter Try.func89, Try.ntmps89
    go_wp2_with fail
    go_ret
    exact ⟨none, 0, 0, rfl, Below.refl _ _, by rw [unhide HE]; exact Arg.none _⟩
  · rcases hx.addr with ⟨rfl, rfl⟩ | ⟨b, off, rfl⟩
    · have := hx.cap; omega
    · have hcm := hx.top
      have hnc := hx.cap
      unfold maxLen at hcm
      have HX := hide hx
      have HTr := hide (trim_drop tx h)
      have e1 : ¬ (n : Int) ≤ (h : Int) := by omega
      have e2 : (h : Int) ≤ (n : Int) := by omega
      have e3 : (n : Int) ≤ (c : Int) := by omega
      have e4 : (0 : Int) ≤ (h : Int) := by omega
      have e5 : ¬ c = h := by omega
      have HD : Hid ((xs.drop h).length = n - h) := hide (by rw [List.length_drop, hx.len])
      have HS : Hid (Sl w (some ⟨b, off + h, none⟩) (xs.drop h)) := hide (by
        rcases hx.sl with rfl | ⟨b', off', e, hb, hc⟩
        · exact .inl (by simp)
        · cases e
          refine .inr ⟨b, off + h, rfl, hb, fun i hi => ?_⟩
          rw [List.length_drop] at hi
          have := hc (h + i) (by omega)
          rw [show off + h + i = off + (h + i) by omega, this]
          simp only [List.getD_eq_getElem?_getD, List.getElem?_drop])
      clear hx tx
      go_enter Try.func89, Try.ntmps89
      go_wp2_with fail
      refine (cut_any _ (n - h) (c - h) (xs.drop h) w ⟨unhide HS, unhide HD, by omega, by unfold maxLen; omega, .inr ⟨_, _, rfl⟩⟩ (by omega)).mono ?_
      rintro e w1 ⟨a1, n1, c1, rfl, hb, ho, ha⟩
      rw [unhide HTr] at ha
      have HF := hide (And.intro hb ha)
      clear hb ho ha
      go_wp2_with fail
      go_ret
      exact ⟨a1, n1, c1, rfl, (unhide HF).1, (unhide HF).2⟩
set_option maxHeartbeats 2000000 in
theorem shiftS_any (a : Option Addr) (n c : Nat) (B : Int) (b : Nat) (hB : B = b) (xs : List Int) (w : World) (hx : Arg w a n c xs) (ox : okL xs) (h1 : n ≤ 500000) (hb : b ≤ 500000) :
    Calls Try.prog 91 #[.slice a n c, .int .i64 B] w (OutU w (65536 ^ b * val xs) (b + n)) := by
  subst hB
  obtain ⟨i0, hi, hz0, hz1, hz2⟩ := info_parts Try.info3
  by_cases hn0 : n = 0
  · subst hn0
    have HE : Hid (xs = []) := hide (List.length_eq_zero_iff.1 hx.len)
    clear hx
    go_enter Try.func91, Try.ntmps91
    go_wp2_with fail
    go_ret
    exact ⟨none, 0, 0, [], rfl, Below.refl _ _, .inl rfl, Arg.none _, okL_nil, by rw [unhide HE]; simp [val], Nat.zero_le _⟩
  · rcases hx.sl with rfl | ⟨bb, off, rfl, hbb, hc⟩
    · have := hx.len; simp at this; omega
    · have HL := hide hx.len
      have HC := hide hc
      have hne : ((n : Int) == 0) = false := by simp; omega
      clear hx hc
      go_enter Try.func91, Try.ntmps91
      go_wp2_with (first
        | (at_make; refine wpList_make_full _ rfl _ _ 23 rfl w.heap.size 3 i0 (.int .i64 0) 1 Try.underlying23 hi hz0 hz1 .i64 .i64 _ _ b rfl rfl rfl rfl (by rw [hz2]; omega) (by unfold maxLen; omega) (Nat.le_refl _) ?_; intro w1 hown hgrow; have HO1 : Hid (w1.ownsRow w.heap.size 3 1 (.slice (some ⟨w.heap.size, 0, none⟩) b b) b ((List.replicate b 0).map (Value.int .i64))) := (by rw [Nat.mul_one] at hown; rw [← made_ints]; exact hide hown); have HB1 := hide ((Below.refl w.heap.size w).grown hgrow (Nat.le_refl _) (fun k e => by cases e)); have HC1 : Hid (∀ q u, (xs.map (Value.int .i64))[q]? = some u → w1.cell? ((⟨bb, off, none⟩ : Addr).add q) = some u) := hide (cells_all (w := w1) (fun i hi => ((unhide HB1).cell (by exact hbb)).trans (unhide HC i hi))); clear hown hgrow)
        | (at_builtin; refine wpList_append_own _ rfl (.tmp 9) (.tmp 10) 23 rfl w.heap.size 3 i0 (.int .i64 0) 1 8 Try.underlying23 hi hz0 hz1 hz2 rfl (by decide) _ _ _ rfl (unhide HO1) ⟨bb, off, none⟩ n c (xs.map (Value.int .i64)) rfl (by simp; exact unhide HL) (unhide HC1) (one_cells _) (by unfold maxLen; omega) (by omega) (unhide HB1).size ?_))
      intro v' w2 hown2 hg2 _
      have HR : Hid (w2.ownsRow w.heap.size 3 1 v' (b + n) ((List.replicate b 0 ++ xs).map (Value.int .i64))) := hide (by simpa using hown2)
      have HB2 : Hid (Below w.heap.size w w2) := hide ((unhide HB1).grown hg2 (unhide HB1).size (fun k e => by simp [Value.ownBlock] at e; omega))
      have hl : (List.replicate b 0 ++ xs).length = b + n := by simp; exact unhide HL
      obtain ⟨a2, c2, rfl, ho, ha⟩ := owns_shape (unhide HR) hl
      have HF := hide (And.intro ho ha)
      have HLL := hide hl
      clear hown2 hg2 ho ha hl
      go_wp2_with fail
      go_ret
      exact ⟨a2, _, c2, _, rfl, unhide HB2, (unhide HF).1, (unhide HF).2, okL_zeros b ox, val_zeros b xs, by rw [unhide HLL]; exact Nat.le_refl _⟩
end Go.Proofs.Ytifiphoapjjhiaa

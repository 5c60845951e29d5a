/- Parts of limbs and limbs shifted: the program's partsOf and shiftLimbs. No condition beyond those typed. -/
import Derived.Test.YtifiphoapjjhiaaMulBig
namespace Go.Proofs.Ytifiphoapjjhiaa
open Go.RowKit
set_option linter.unusedVariables false
set_option linter.unusedSimpArgs false

theorem made_owns (w : World) (b n : Nat) (hm : b + n ≤ maxLen) : (w.alloc (.cells (madeCells #[.int .i64 0] (b + n)) 3)).ownsRow w.heap.size 3 1 (.slice (some ⟨w.heap.size, 0, none⟩) b (b + n)) b ((List.replicate b 0).map (Value.int .i64)) := by
  refine ⟨by simp, .inr ⟨w.heap.size, b + n, madeCells #[.int .i64 0] (b + n), rfl, Nat.le_refl _, ?_, by omega, hm, by simp [size_madeCells], ?_⟩⟩
  · show (w.heap.push _)[w.heap.size]? = _
    simp
  · rw [made_ints]
    rw [← List.map_take, List.take_replicate]
    congr 2
    omega
theorem val_zeros (n : Nat) (xs : List Int) : val (List.replicate n 0 ++ xs) = 65536 ^ n * val xs := by
  induction n with
  | zero => simp
  | succ n ih => simp only [List.replicate_succ, List.cons_append, val, ih, Int.pow_succ, Int.mul_comm (65536 ^ n) 65536, Int.mul_assoc]; omega
theorem okL_zeros (n : Nat) {xs : List Int} (h : okL xs) : okL (List.replicate n 0 ++ xs) := okL_append (fun x hx => by rw [List.eq_of_mem_replicate hx]; omega) h

set_option maxHeartbeats 2000000 in
theorem shiftI_any (a : Option Addr) (n c b : Nat) (xs : List Int) (w : World) (hx : Arg w a n c xs) (ox : okL xs) (h1 : n ≤ 500000) (hb : b ≤ 500000) :
    Calls Try.prog 87 #[.slice a n c, .int .i64 b] w (OutU w (65536 ^ b * val xs) (b + n)) := by
  obtain ⟨i0, hi, hz0, hz1, hz2⟩ := info_parts Try.info3
  have hmk : ∀ w, (Instr.makeSlice 23 (.int .i64 (b : Int)) (.int .i64 ((b : Int) + (n : Int)))).run Try.prog w = .ok (.slice (some ⟨w.heap.size, 0, none⟩) b (b + n)) (w.alloc (.cells (madeCells #[.int .i64 0] (b + n)) 3)) := by
    intro w
    have := run_make (P := Try.prog) w 23 3 i0 (.int .i64 0) Try.underlying23 hi hz0 .i64 .i64 (b : Int) ((b : Int) + (n : Int)) (by omega) (by omega) (by rw [hz2]; omega) (by omega)
    rw [this, hz1]
    simp [show ((b : Int) + (n : Int)).toNat = b + n by omega, Value.cells]
  have hown := hide (made_owns w b n (by unfold maxLen; omega))
  have hnone : Hid (a = none → n = 0 ∧ c = 0) := hide (fun e => by
    rcases hx.addr with ⟨_, hc⟩ | ⟨_, _, h'⟩
    · exact ⟨by have := hx.cap; omega, hc⟩
    · rw [e] at h'; cases h')
  have hcells : Hid (∀ ad, a = some ad → ∀ j u, (xs.map (Value.int .i64))[j]? = some u → (w.alloc (.cells (madeCells #[.int .i64 0] (b + n)) 3)).cell? (ad.add j) = some u) := hide (by
    intro ad e j u hj
    rcases hx.sl with rfl | ⟨b', off', e', hb', hc⟩
    · simp at hj
    · rw [e] at e'
      cases e'
      have := cells_at (w := w.alloc (.cells (madeCells #[.int .i64 0] (b + n)) 3)) (b := b') (off := off') (k := xs.length) (xs := xs) (fun i hi => by
        rw [← hc i hi]; exact ((Below.refl _ _).alloc (Nat.le_refl _) _).cell (by exact hb')) (Nat.le_refl _)
      rw [List.take_length] at this
      exact this j u hj)
  have hlen := hide (show (xs.map (Value.int .i64)).length = n * 1 by simp; exact hx.len)
  have HL := hide hx.len
  clear hx
  go_enter Try.func87, Try.ntmps87
  go_wp2_with (at_builtin; refine wpList_append_fits_any _ rfl (.tmp 10) (.tmp 11) 23 rfl w.heap.size 3 i0 1 Try.underlying23 hi hz1 w.heap.size b (b + n) _ rfl (unhide hown) a n c (xs.map (Value.int .i64)) rfl (unhide hlen) (unhide hnone) (unhide hcells) (one_cells _) (Nat.le_refl _) ?_)
  intro w1 hown1 hg
  have HR : Hid (w1.ownsRow w.heap.size 3 1 (.slice (some ⟨w.heap.size, 0, none⟩) (b + n) (b + n)) (b + n) ((List.replicate b 0 ++ xs).map (Value.int .i64))) := hide (by simpa using hown1)
  have HB := hide (below_alloc_grown hg (fun k e => by simp at e; omega))
  clear hown1 hg hmk
  go_wp2
  go_ret
  have hl : (List.replicate b 0 ++ xs).length = b + n := by simp; exact unhide HL
  have ho := Own.of_owns (unhide HR) hl
  exact ⟨_, _, _, _, rfl, unhide HB, ho, ⟨ho.sl, hl, Nat.le_refl _, by unfold maxLen; omega, .inr ⟨_, _, rfl⟩⟩, okL_zeros b ox, val_zeros b xs, by rw [hl]; exact Nat.le_refl _⟩

set_option maxHeartbeats 2000000 in
theorem parts_le (bb off n c h : Nat) (xs : List Int) (w : World) (hs : Sl w (some ⟨bb, off, none⟩) xs) (hn : xs.length = n) (hnc : n ≤ c) (hcm : c ≤ maxLen) (hh : h ≤ n) :
    Calls Try.prog 84 #[.slice (some ⟨bb, off, none⟩) n c, .int .i64 h] w fun e w' => ∃ a1 n1 c1 a2 c2, e = .returned (.tuple #[.slice a1 n1 c1, .slice a2 (n - h) c2]) ∧ Below w.heap.size w w' ∧ Arg w' a1 n1 c1 (trim (xs.take h)) ∧ Arg w' a2 (n - h) c2 (xs.drop h) := by
  unfold maxLen at hcm
  have HS := hide hs
  have HN := hide hn
  clear hs hn
  have h1 : (h : Int) ≤ (n : Int) := by omega
  have h2 : (0 : Int) ≤ (h : Int) := by omega
  have h3 : (n : Int) ≤ (c : Int) := by omega
  have h4 : (h : Int) ≤ (c : Int) := by omega
  have h5 : h ≤ c := by omega
  have HT : Hid ((xs.take h).length = h) := hide (by rw [List.length_take, unhide HN]; omega)
  have HD : Hid ((xs.drop h).length = n - h) := hide (by rw [List.length_drop, unhide HN])
  by_cases hch : c = h
  · subst hch
    obtain rfl : n = c := by omega
    have HE : Hid (xs.drop n = []) := hide (List.drop_of_length_le (by rw [unhide HN]; exact Nat.le_refl _))
    go_enter Try.func84, Try.ntmps84
    go_upto_region 2 with fail
    go_region_with (first
      | (go_at_call 83; refine (trim_any _ n n (xs.take n) _ ?_).mono ?_; exact ⟨((unhide HS).take n).drew, unhide HT, by omega, by unfold maxLen; omega, .inr ⟨_, _, rfl⟩⟩; rintro e w1 ⟨a1, n1, c1, rfl, rfl, harg, hown⟩; have HA := hide harg; clear harg hown))
    all_goals go_wp2
    all_goals go_ret2
    all_goals exact ⟨a1, n1, c1, some ⟨bb, off, none⟩, 0, by rw [Nat.sub_self]; rfl, (Below.refl _ _).drew, unhide HA _ ⟨((unhide HS).take n).drew, unhide HT, by omega, by unfold maxLen; omega, .inr ⟨_, _, rfl⟩⟩, ⟨by rw [unhide HE]; exact .inl rfl, unhide HD, by omega, Nat.zero_le _, .inr ⟨_, _, rfl⟩⟩⟩
  · have HSd : Hid (Sl w (some ⟨bb, off + h, none⟩) (xs.drop h)) := hide (by
      rcases unhide HS with rfl | ⟨b', off', e, hb, hc⟩
      · exact .inl (by simp)
      · cases e
        refine .inr ⟨bb, off + h, rfl, hb, fun i hi => ?_⟩
        rw [List.length_drop] at hi
        have := hc (h + i) (by omega)
        rw [show off + h + i = off + (h + i) by omega, this]
        simp only [List.getD_eq_getElem?_getD, List.getElem?_drop])
    go_enter Try.func84, Try.ntmps84
    go_upto_region 2 with fail
    go_region_with (first
      | (go_at_call 83; refine (trim_any _ h c (xs.take h) _ ?_).mono ?_; exact ⟨((unhide HS).take h).drew, unhide HT, by omega, by unfold maxLen; omega, .inr ⟨_, _, rfl⟩⟩; rintro e w1 ⟨a1, n1, c1, rfl, rfl, harg, hown⟩; have HA := hide harg; clear harg hown))
    all_goals go_wp2
    all_goals go_ret2
    all_goals exact ⟨a1, n1, c1, _, _, rfl, (Below.refl _ _).drew, unhide HA _ ⟨((unhide HS).take h).drew, unhide HT, by omega, by unfold maxLen; omega, .inr ⟨_, _, rfl⟩⟩, ⟨(unhide HSd).drew, unhide HD, by omega, by unfold maxLen; omega, .inr ⟨_, _, rfl⟩⟩⟩

set_option maxHeartbeats 2000000 in
theorem parts_none (h : Nat) (w : World) (hh : h ≤ 1000000) :
    Calls Try.prog 84 #[.slice none 0 0, .int .i64 h] w fun e w' => e = .returned (.tuple #[.slice none 0 0, .slice none 0 0]) ∧ Below w.heap.size w w' := by
  by_cases h0 : h = 0
  · subst h0
    go_enter Try.func84, Try.ntmps84
    go_upto_region 2 with fail
    go_region_with (first
      | (go_at_call 83; refine (trim_nil_any _ _ _).mono ?_; rintro e w1 ⟨rfl, rfl⟩))
    all_goals go_wp2
    all_goals go_ret2
    all_goals exact ⟨rfl, (Below.refl _ _).drew⟩
  · have h1 : ¬ (h : Int) ≤ 0 := by omega
    go_enter Try.func84, Try.ntmps84
    go_upto_region 2 with fail
    go_region_with (first
      | (go_at_call 83; refine (trim_nil_any _ _ _).mono ?_; rintro e w1 ⟨rfl, rfl⟩))
    all_goals go_wp2
    all_goals go_ret2
    all_goals exact ⟨rfl, (Below.refl _ _).drew⟩
set_option maxHeartbeats 2000000 in
theorem parts_gt (bb off n c h : Nat) (xs : List Int) (w : World) (hs : Sl w (some ⟨bb, off, none⟩) xs) (hn : xs.length = n) (hnc : n ≤ c) (hcm : c ≤ maxLen) (hh : n < h) (hh2 : h ≤ 1000000) :
    Calls Try.prog 84 #[.slice (some ⟨bb, off, none⟩) n c, .int .i64 h] w fun e w' => ∃ a1 n1 c1 a2 c2, e = .returned (.tuple #[.slice a1 n1 c1, .slice a2 0 c2]) ∧ Below w.heap.size w w' ∧ Arg w' a1 n1 c1 (trim xs) ∧ Arg w' a2 0 c2 [] := by
  unfold maxLen at hcm
  have HS := hide hs
  have HN := hide hn
  clear hs hn
  have h1 : ¬ (h : Int) ≤ (n : Int) := by omega
  have h1' : (n : Int) < (h : Int) := by omega
  have h3 : (n : Int) ≤ (c : Int) := by omega
  by_cases hch : c = n
  · subst hch
    go_enter Try.func84, Try.ntmps84
    go_upto_region 2 with fail
    go_region_with (first
      | (go_at_call 83; refine (trim_any _ c c xs _ ?_).mono ?_; exact ⟨(unhide HS).drew, unhide HN, by omega, by unfold maxLen; omega, .inr ⟨_, _, rfl⟩⟩; rintro e w1 ⟨a1, n1, c1, rfl, rfl, harg, hown⟩; have HA := hide harg; clear harg hown))
    all_goals go_wp2
    all_goals go_ret2
    all_goals exact ⟨a1, n1, c1, some ⟨bb, off, none⟩, 0, rfl, (Below.refl _ _).drew, unhide HA _ ⟨(unhide HS).drew, unhide HN, by omega, by unfold maxLen; omega, .inr ⟨_, _, rfl⟩⟩, ⟨.inl rfl, rfl, by omega, by unfold maxLen; omega, .inr ⟨_, _, rfl⟩⟩⟩
  · go_enter Try.func84, Try.ntmps84
    go_upto_region 2 with fail
    go_region_with (first
      | (go_at_call 83; refine (trim_any _ n c xs _ ?_).mono ?_; exact ⟨(unhide HS).drew, unhide HN, by omega, by unfold maxLen; omega, .inr ⟨_, _, rfl⟩⟩; rintro e w1 ⟨a1, n1, c1, rfl, rfl, harg, hown⟩; have HA := hide harg; clear harg hown))
    all_goals go_wp2
    all_goals go_ret2
    all_goals exact ⟨a1, n1, c1, some ⟨bb, off + n, none⟩, c - n, rfl, (Below.refl _ _).drew, unhide HA _ ⟨(unhide HS).drew, unhide HN, by omega, by unfold maxLen; omega, .inr ⟨_, _, rfl⟩⟩, ⟨.inl rfl, rfl, by omega, by unfold maxLen; omega, .inr ⟨_, _, rfl⟩⟩⟩
end Go.Proofs.Ytifiphoapjjhiaa

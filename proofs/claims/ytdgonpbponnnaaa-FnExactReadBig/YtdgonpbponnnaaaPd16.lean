/- putDigit: limbs times ten and a digit, in their own place. No condition beyond those typed. Written by mkpd16.py. -/
import Derived.Test.YtdgonpbponnnaaaRl16
import Derived.Test.YtdgonpbponnnaaaAcc
namespace Go.Proofs.Ytdgonpbponnnaaa
open Go.RowKit
set_option linter.unusedVariables false
set_option maxRecDepth 100000
set_option linter.unusedSimpArgs false

theorem set_mid16 {zs L : List Int} {i : Nat} (h : zs.length = i) (hi : i < L.length) (t : Int) : (zs ++ L.drop i).set i t = (zs ++ [t]) ++ L.drop (i + 1) := by
  rw [List.set_append_right i t (by omega), h, Nat.sub_self, List.drop_eq_getElem_cons hi, List.set_cons_zero]
  simp
theorem acc_ten {zs L : List Int} {i : Nat} {cy d : Int} (h : Acc zs i cy (10 * val (L.take i) + d)) (hi : i < L.length) : Acc (zs ++ [(cy + L.getD i 0 * 10) % 65536]) (i + 1) ((cy + L.getD i 0 * 10) / 65536) (10 * val (L.take (i + 1)) + d) := by
  refine (h.step (cy + L.getD i 0 * 10)).cast ?_
  rw [val_take_succ]
  have e : cy + L.getD i 0 * 10 - cy = 10 * L.getD i 0 := by omega
  rw [e, Int.mul_left_comm, Int.mul_add]
  omega
set_option maxHeartbeats 4000000 in
theorem putI16 (B : Nat) (v : Value) (L : List Int) (d : Int) (w : World) (h : RwI B w v L) (ox : okL L) (hd : 0 ≤ d ∧ d ≤ 9) (h1 : L.length ≤ 1000) (hBw : B ≤ w.heap.size) :
    Calls Try.prog 17 #[v, .int .i64 d] w fun e w' => ∃ v' L', e = .returned v' ∧ RwI B w' v' L' ∧ okL L' ∧ val L' = 10 * val L + d ∧ (L'.length = L.length ∨ ∃ zs cy, L' = zs ++ [cy] ∧ cy ≠ 0) ∧ L'.length ≤ L.length + 1 ∧ Below B w w' := by
  obtain ⟨i0, hi0, hz0, hz1, hz2⟩ := info_parts Try.info3
  have HR := hide h
  have OX := hide ox
  have HB := hide (Below.refl B w)
  obtain ⟨a, c, rfl, _⟩ := h.sl
  obtain ⟨n, hn⟩ : ∃ n, n = L.length := ⟨_, rfl⟩
  have HN := hide hn
  rw [← hn] at h1 HR ⊢
  clear h ox hn
  go_enter Try.func17, Try.ntmps17
  go_wp2
  go_loopw [5, 11] (fun cv iv wr => ∃ (i : Nat) (cy : Int) (zs : List Int), i ≤ n ∧ iv = .int .i64 i ∧ cv = .int .i64 cy ∧ 0 ≤ cy ∧ cy ≤ 9 ∧ Hid (Acc zs i cy (10 * val (L.take i) + d)) ∧ Hid (RwI B wr (.slice a n c) (zs ++ L.drop i)) ∧ Hid (Below B w wr)) (fun _ iv _ => n - (intOf iv).toNat)
  case atStart => exact ⟨0, d, [], Nat.zero_le _, rfl, rfl, hd.1, hd.2, hide ⟨rfl, okL_nil, by simp [val]⟩, HR, HB⟩
  case round =>
    clear HR HB
    obtain ⟨i, cy, zs, hi, rfl, rfl, c0, c1, HA, HR, HB⟩ := hrel
    by_cases hlt : i < n
    · have hlt' : (i : Int) < (n : Int) := by omega
      have zl := (unhide HA).len
      have ln := unhide HN
      have ll : (zs ++ L.drop i).length = n := by rw [List.length_append, List.length_drop, zl]; omega
      rcases (unhide HR).open with ⟨_, e⟩ | ⟨g, c', ev, hB, hg, _, _, hc⟩
      · rw [e] at ll; simp at ll; omega
      rw [ll] at ev
      cases ev
      have e0 := hc i (by omega)
      rw [List.getElem_append_right (by omega)] at e0
      have ex : (L.drop i)[i - zs.length]'(by rw [List.length_drop, zl]; omega) = L.getD i 0 := by simp [zl, List.getD, show i < L.length by omega]
      rw [ex] at e0
      have xb := okL_get (unhide OX) i
      have AC := hide (acc_ten (unhide HA) (show i < L.length by omega))
      have RN : Hid (RwI B (wr.setCell ⟨g, i, none⟩ (.int .i64 ((cy + L.getD i 0 * 10) % 65536))) (.slice (some ⟨g, 0, none⟩) n c) (zs ++ [(cy + L.getD i 0 * 10) % 65536] ++ L.drop (i + 1))) := hide (by
        have h := unhide HR
        rw [← ll] at h
        have k := h.put15 i ((cy + L.getD i 0 * 10) % 65536)
        rw [ll, set_mid16 zl (by omega)] at k
        exact k)
      have fr : ∀ o, wr.frozen? ⟨g, o, none⟩ = false := fun o => by have h := (unhide HR).row; rw [ll] at h; exact h.frozenAt o
      generalize L.getD i 0 = x at *
      have w1 : IntKind.i64.wrap (x * 10) = x * 10 := by rw [IntKind.wrap_i64]; omega
      have w2 : IntKind.i64.wrap (cy + x * 10) = cy + x * 10 := by rw [IntKind.wrap_i64]; omega
      have am := and_mask (cy + x * 10)
      have HB2 := hide ((unhide HB).setCell (p := ⟨g, i, none⟩) hB (.int .i64 ((cy + x * 10) % 65536)))
      have d0 : 0 ≤ (cy + x * 10) / 65536 := by omega
      have d9 : (cy + x * 10) / 65536 ≤ 9 := by omega
      clear hc HR HA HB ll zl ln ex
      go_wp2
      go_roundw
      case rel => exact ⟨i + 1, (cy + x * 10) / 65536, zs ++ [(cy + x * 10) % 65536], by omega, by go_num, by go_num, d0, d9, AC, RN, HB2⟩
      case measure => simp [intOf]; omega
    · obtain rfl : i = n := by omega
      have ln := unhide HN
      have e1 : zs ++ L.drop i = zs := by rw [List.drop_of_length_le (by omega), List.append_nil]
      have e2 : L.take i = L := List.take_of_length_le (by omega)
      rw [e1] at HR
      rw [e2] at HA
      have av := (unhide HA).v
      have al := (unhide HA).len
      have hsz := (unhide HB).size
      clear e1 e2
      by_cases c2 : cy = 0
      · subst c2
        rw [Int.mul_zero, Int.add_zero] at av
        have AV := hide av
        have AL := hide al
        clear av al ln
        go_wp2
        go_ret
        exact ⟨_, zs, rfl, unhide HR, (unhide HA).ok, unhide AV, .inl (by have := unhide AL; have := unhide HN; omega), by have := unhide AL; omega, unhide HB⟩
      · have c3 : 0 < cy := by omega
        have AV : Hid (val (zs ++ [cy]) = 10 * val L + d) := hide (by rw [val_snoc, al]; exact av)
        have AO : Hid (okL (zs ++ [cy])) := hide (okL_append (unhide HA).ok (okL_one (by omega) (by omega)))
        have AL := hide al
        have RA := hide ((unhide HR).row)
        clear av ln
        go_wp2_with (at_builtin; refine wpList_append_own _ rfl (.tmp 30) (.tmp 32) 22 rfl B 3 i0 (.int .i64 0) 1 8 Try.underlying22 hi0 hz0 hz1 hz2 rfl (by decide) _ _ _ rfl ((unhide RA).alloc _) ⟨_, 0, none⟩ 1 1 [.int .i64 cy] rfl rfl (new_cellI _ _) (fun u hu => by simp at hu; subst hu; rfl) (by unfold maxLen; omega) (by omega) (by simp; omega) ?_)
        intro v' w7 hown hgr _
        have HO : Hid (RwI B w7 v' (zs ++ [cy])) := hide (RwI.snoc (by rw [unhide AL]; exact hown))
        have PB := hide (owns_belowR (unhide HB) (by omega) (unhide RA) hgr)
        clear hown hgr RA al
        go_wp2
        go_ret
        exact ⟨_, zs ++ [cy], rfl, unhide HO, unhide AO, unhide AV, .inr ⟨zs, cy, rfl, c2⟩, by have := unhide AL; simp; omega, unhide PB⟩
end Go.Proofs.Ytdgonpbponnnaaa

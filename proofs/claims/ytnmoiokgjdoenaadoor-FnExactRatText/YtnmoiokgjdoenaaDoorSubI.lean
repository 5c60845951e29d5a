/- Differences of limbs: the program's subLimbs (over slices.Clone). No condition beyond those typed. -/
import Derived.Test.YtnmoiokgjdoenaaDoorAddI
namespace Go.Proofs.YtnmoiokgjdoenaaDoor
open Go.RowKit
set_option linter.unusedVariables false
set_option maxRecDepth 100000
set_option linter.unusedSimpArgs false

set_option maxHeartbeats 1000000 in
theorem clone_none (c : Nat) (w : World) :
    Calls Tryd.prog 59 #[.slice none 0 c] w fun e w' => e = .returned (.slice none 0 0) ∧ w' = w := by
  have hq := fun w => Lib.run_eql_slice_nil (P := Tryd.prog) w 22 3 none 0 c 0 0 Tryd.underlying22
  go_enter Tryd.func59, Tryd.ntmps59
  go_wp2
  go_ret
  exact ⟨rfl, rfl⟩
set_option maxHeartbeats 1000000 in
theorem clone_some (b off n c : Nat) (xs : List Int) (w : World) (hs : Sl w (some ⟨b, off, none⟩) xs) (hn : xs.length = n) (h1 : n ≤ 1048576) :
    Calls Tryd.prog 59 #[.slice (some ⟨b, off, none⟩) n c] w fun e w' => ∃ g c', e = .returned (.slice (some ⟨g, 0, none⟩) n c') ∧ Below w.heap.size w w' ∧ w'.ownsRow w.heap.size 3 1 (.slice (some ⟨g, 0, none⟩) n c') n (xs.map (Value.int .i64)) := by
  obtain ⟨i0, hi, hz0, hz1, hz2⟩ := info_parts Tryd.info3
  have hq := fun w => Lib.run_eql_slice_nil (P := Tryd.prog) w 22 3 (some ⟨b, off, none⟩) n c 0 0 Tryd.underlying22
  have hcells : Hid (∀ q u, (xs.map (Value.int .i64))[q]? = some u → (w.alloc (.cells #[] 3)).cell? ((⟨b, off, none⟩ : Addr).add q) = some u) := by
    rcases hs with rfl | ⟨b', off', e, hb, hc⟩
    · exact hide (fun q u h => by simp at h)
    · simp only [Option.some.injEq, Addr.mk.injEq, and_true] at e
      obtain ⟨rfl, rfl⟩ := e
      have := cells_at (w := w.alloc (.cells #[] 3)) (b := b) (off := off) (k := xs.length) (xs := xs) (fun i hi => by
        rw [← hc i hi]; exact ((Below.refl _ _).alloc (Nat.le_refl _) _).cell (by exact hb)) (Nat.le_refl _)
      rw [List.take_length] at this
      exact hide this
  have hlen := hide (show (xs.map (Value.int .i64)).length = n * 1 by simp; exact hn)
  clear hn
  go_enter Tryd.func59, Tryd.ntmps59
  go_wp2_with (at_builtin; refine wpList_append_own _ rfl (.tmp 5) (.tmp 6) 22 rfl w.heap.size 3 i0 (.int .i64 0) 1 8 Tryd.underlying22 hi hz0 hz1 hz2 rfl (by decide) _ _ _ rfl (owns_empty w) ⟨b, off, none⟩ n c (xs.map (Value.int .i64)) rfl (unhide hlen) (unhide hcells) (one_cells _) (by unfold maxLen; omega) (by omega) (by simp) ?_)
  intro v' w1 hown hg hnil
  have hB := hide (below_alloc_grown hg (fun k e => by simp [Value.ownBlock] at e; omega))
  have hown' : w1.ownsRow w.heap.size 3 1 v' n (xs.map (Value.int .i64)) := by simpa using hown
  have HS : Hid (∃ g c', v' = .slice (some ⟨g, 0, none⟩) n c') := by
    rcases hown'.2 with ⟨h', _⟩ | ⟨g', cap', cur, h', _⟩
    · exact (hnil h').elim
    · exact hide ⟨g', cap', h'⟩
  obtain ⟨g, c', rfl⟩ := unhide HS
  have HO := hide hown'
  clear hown hg hnil hown' HS
  go_wp2
  go_ret
  exact ⟨g, c', rfl, unhide hB, unhide HO⟩

theorem mix_owns {w : World} {base g n cap k : Nat} {zs xs : List Int} (h : w.ownsRow base 3 1 (.slice (some ⟨g, 0, none⟩) n cap) n ((zs ++ xs.drop k).map (Value.int .i64))) (hk : zs.length = k) (hkn : k < n) (hn : xs.length = n) (d : Int) :
    w.cell? ⟨g, k, none⟩ = some (.int .i64 (xs.getD k 0)) ∧ w.frozen? ⟨g, k, none⟩ = false ∧
    (w.setCell ⟨g, k, none⟩ (.int .i64 d)).ownsRow base 3 1 (.slice (some ⟨g, 0, none⟩) n cap) n (((zs ++ [d]) ++ xs.drop (k + 1)).map (Value.int .i64)) := by
  refine ⟨?_, h.frozenAt k, ?_⟩
  · rw [h.cellAt k (by omega)]
    simp only [List.getElem?_map, List.getElem?_append, hk, Nat.lt_irrefl, if_false, Nat.sub_self, List.getElem?_drop, Nat.add_zero]
    rw [List.getElem?_eq_getElem (by omega)]
    simp [show k < xs.length by omega]
  · have e : (zs ++ xs.drop k).set k d = (zs ++ [d]) ++ xs.drop (k + 1) := by
      rw [List.set_append_right _ _ (by omega), hk, Nat.sub_self, List.drop_eq_getElem_cons (show k < xs.length by omega), List.set_cons_zero]
      simp
    rw [← e, List.map_set]
    exact (h.stored k (.int .i64 d)).1

/-- Behind a difference that is not below 0 nothing is left to be taken. -/
theorem Acc.full {zs : List Int} {n : Nat} {cy V : Int} (h : Acc zs n cy V) (hV : 0 ≤ V) (h1 : V < 65536 ^ n) : cy = 0 ∧ val zs = V := by
  have e := h.v
  have l1 := val_nonneg h.ok
  have l2 := val_lt h.ok
  rw [h.len] at l2
  have hp : (0 : Int) < 65536 ^ n := Int.pow_pos (by omega)
  have hc : cy = 0 := by
    rcases Int.lt_trichotomy cy 0 with hc | hc | hc
    · have : 65536 ^ n * cy ≤ 65536 ^ n * (-1) := Int.mul_le_mul_of_nonneg_left (by omega) (by omega)
      omega
    · exact hc
    · have : 65536 ^ n * 1 ≤ 65536 ^ n * cy := Int.mul_le_mul_of_nonneg_left (by omega) (by omega)
      omega
  subst hc
  simp at e
  exact ⟨rfl, e⟩

end Go.Proofs.YtnmoiokgjdoenaaDoor

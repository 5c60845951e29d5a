/- slices.Concat of two slices of points. No condition beyond those typed. -/
import Derived.Test.YtgoiodhofbkkdaaRs10
namespace Go.Proofs.Ytgoiodhofbkkdaa
open Go.RowKit
set_option linter.unusedVariables false
set_option maxRecDepth 100000
set_option linter.unusedSimpArgs false

set_option maxHeartbeats 4000000 in
theorem growI (m : Nat) (w : World) (hm : m ≤ 200) :
    Calls Try.prog 97 #[.slice none 0 0, .int .i64 m] w fun e w' => ∃ v, e = .returned v ∧ RwP w.heap.size w' v [] ∧ Below w.heap.size w w' := by
  obtain ⟨i0, hi0, hz0, hz1, hz2⟩ := info_parts infoPt
  by_cases h0 : m = 0
  · subst h0
    go_enter Try.func97, Try.ntmps97
    go_wp2
    go_ret
    exact ⟨_, rfl, RwP.nil _ _, Below.refl _ _⟩
  · have hold : (Builtin.firstCells i0.size 0 (.slice none 0 0)).run Try.prog w.drew = .ok ([] : List Value).toArray w.drew := rfl
    have hrz : ∀ ty, (Builtin.append_ #[23, 3] ty #[.slice none 0 0, .int .i64 (m : Int)]).run Try.prog w = _ := fun ty => Lib.run_append_grow_zeros w 23 3 ty 31 i0 _ .i64 .i64 Try.underlying23 Try.underlying3 hi0 hz0 none 0 0 [] hold m (by omega) (by omega) (by omega) (by omega) (by rw [hz2]; omega) (by rw [hz2]; exact growslice_fits (by omega) (by omega))
    rw [Nat.zero_add] at hrz
    have hGn := grownCap_ge w m 0 31
    have hGm := grownCap_le_maxLen w m 0 31 (by unfold maxLen; omega)
    generalize grownCap w m 0 31 = G at *
    have hsz : (([] : List Value).toArray ++ Builtin.zeroCells (Value.agg #[.int .i64 0, .int .i64 0]).cells m ++ Builtin.zeroCells (Value.agg #[.int .i64 0, .int .i64 0]).cells (G - m)).size = G * 2 := by simp only [Array.size_append, zero_len, List.size_toArray, List.length_nil]; omega
    generalize ([] : List Value).toArray ++ Builtin.zeroCells (Value.agg #[.int .i64 0, .int .i64 0]).cells m ++ Builtin.zeroCells (Value.agg #[.int .i64 0, .int .i64 0]).cells (G - m) = ROW at *
    have R1 : Hid (RwP w.heap.size (w.drew.alloc (.cells ROW 31)) (.slice (some ⟨w.heap.size, 0, none⟩) 0 G) []) := hide ⟨by simpa [flatP] using World.ownsRow_made (base := w.heap.size) (e := 31) (size := 2) w.drew ROW G (Nat.le_refl _) hGm hsz⟩
    have B1 : Hid (Below w.heap.size w (w.drew.alloc (.cells ROW 31))) := hide ((Below.refl _ _).drew.alloc (Nat.le_refl _) _)
    generalize w.drew.alloc (.cells ROW 31) = W1 at *
    clear hsz hold
    have p1 : (0 : Int) < (m : Int) := by omega
    have p2 : ¬ ((m : Int) < 0) := by omega
    have p3 : (0 : Int) ≤ (G : Int) := by omega
    have p4 : IntKind.i64.wrap (m : Int) = (m : Int) := by rw [IntKind.wrap_i64]; omega
    unfold maxLen at hGm
    go_enter Try.func97, Try.ntmps97
    go_wp2_with (at_builtin; refine Lib.wpList_append_run _ rfl _ _ _ _ rfl _ _ rfl rfl _ _ (hrz _) ?_)
    go_ret
    exact ⟨_, rfl, unhide R1, unhide B1⟩
set_option maxHeartbeats 4000000 in
theorem concatI (G : Nat) (A1 A2 : Addr) (n1 c1 n2 c2 : Nat) (L1 L2 : List (Int × Int)) (w : World) (g0 : w.cell? ⟨G, 0, none⟩ = some (.slice (some A1) n1 c1)) (g1 : w.cell? ⟨G, 1, none⟩ = some (.slice (some A2) n2 c2))
    (h1 : L1.length = n1) (h2 : L2.length = n2) (k1 : ∀ j u, (flatP L1)[j]? = some u → w.cell? (A1.add j) = some u) (k2 : ∀ j u, (flatP L2)[j]? = some u → w.cell? (A2.add j) = some u) (b1 : n1 ≤ 100) (b2 : n2 ≤ 100) :
    Calls Try.prog 81 #[.slice (some ⟨G, 0, none⟩) 2 2] w fun e w' => ∃ v, e = .returned v ∧ RwP w.heap.size w' v (L1 ++ L2) ∧ Below w.heap.size w w' := by
  obtain ⟨i0, hi, hz0, hz1, hz2⟩ := info_parts infoPt
  have HG := hide (And.intro g0 g1)
  have HK1 := hide k1
  have HK2 := hide k2
  have HL1 : Hid ((flatP L1).length = n1 * 2) := hide (by rw [flat_len, h1])
  have HL2 : Hid ((flatP L2).length = n2 * 2) := hide (by rw [flat_len, h2])
  have LN := hide (And.intro h1 h2)
  have CG := hide (fun w => growI (n1 + n2) w (by omega))
  clear k1 k2 h1 h2
  have a1 : IntKind.i64.wrap ((n1 : Int) + (n2 : Int)) = (n1 : Int) + (n2 : Int) := by rw [IntKind.wrap_i64]; omega
  have a2 : ¬ ((n1 : Int) < 0) := by omega
  have a3 : ¬ ((n1 : Int) + (n2 : Int) < 0) := by omega
  go_enter Try.func81, Try.ntmps81
  go_wp2
  go_loop [3, 11] (fun sv kv => ∃ k : Nat, k ≤ 2 ∧ kv = .int .i64 k ∧ Hid ((k = 0 → sv = .int .i64 0) ∧ (k = 1 → sv = .int .i64 n1) ∧ (k = 2 → sv = .int .i64 ((n1 : Int) + (n2 : Int))))) (fun _ kv => 2 - (intOf kv).toNat)
  case atStart => exact ⟨0, by omega, rfl, hide ⟨fun _ => rfl, fun h => absurd h (by omega), fun h => absurd h (by omega)⟩⟩
  case round =>
    obtain ⟨k, hk, rfl, HV⟩ := hrel
    match k, hk, HV with
    | 0, _, HV =>
      have e := (unhide HV).1 rfl
      subst e
      go_wp2
      go_round
      case rel => exact ⟨1, by omega, rfl, hide ⟨fun h => absurd h (by omega), fun _ => rfl, fun h => absurd h (by omega)⟩⟩
      case measure => simp [intOf]
    | 1, _, HV =>
      have e := (unhide HV).2.1 rfl
      subst e
      go_wp2
      go_round
      case rel => exact ⟨2, by omega, rfl, hide ⟨fun h => absurd h (by omega), fun h => absurd h (by omega), fun _ => rfl⟩⟩
      case measure => simp [intOf]
    | 2, _, HV =>
      have e := (unhide HV).2.2 rfl
      subst e
      have en : (n1 : Int) + (n2 : Int) = ((n1 + n2 : Nat) : Int) := by omega
      rw [en]
      clear g0 g1 en
      go_wp2_with fail
      refine (unhide CG _).mono ?_
      rintro e w1 ⟨v, rfl, rw1, hb⟩
      have RW0 := hide rw1
      have HB0 := hide hb
      have g0 := cell_later hb (unhide HG).1
      have g1 := cell_later hb (unhide HG).2
      clear rw1 hb CG
      go_wp2
      go_loopw [6, 27] (fun v kv wr => ∃ k : Nat, k ≤ 2 ∧ kv = .int .i64 k ∧ Hid (True ∧ (k = 0 → RwP w.heap.size wr v []) ∧ (k = 1 → RwP w.heap.size wr v L1) ∧ (k = 2 → RwP w.heap.size wr v (L1 ++ L2))) ∧ Hid (Below w.heap.size w wr)) (fun _ kv _ => 2 - (intOf kv).toNat)
      case atStart => exact ⟨0, by omega, rfl, hide ⟨trivial, fun _ => unhide RW0, fun h => absurd h (by omega), fun h => absurd h (by omega)⟩, HB0⟩
      case round =>
        clear RW0 HB0 g0 g1
        obtain ⟨k, hk, rfl, HV, HB⟩ := hrel
        have g0 := cell_later (unhide HB) (unhide HG).1
        have g1 := cell_later (unhide HB) (unhide HG).2
        match k, hk, HV with
        | 0, _, HV =>
          have rw1 := (unhide HV).2.1 rfl
          obtain ⟨a', c', rfl, _⟩ := rw1.sl
          have RW := hide rw1
          clear rw1 HV
          have K := hide (fun j u hu => cell_later (unhide HB) (unhide HK1 j u hu))
          go_wp2_with (at_builtin; refine wpList_append_own_at _ rfl (.tmp 31) (.tmp 32) 23 rfl w.heap.size 31 i0 (.agg #[.int .i64 0, .int .i64 0]) 2 16 Try.underlying23 hi hz0 hz1 hz2 rfl (by decide) _ _ _ rfl (unhide RW).row A1 n1 c1 (flatP L1) rfl (unhide HL1) (unhide K) (flat_one' _) (by have := unhide LN; simp only [List.length_nil, this.1]; unfold maxLen; omega) (by have := unhide LN; simp only [List.length_nil, this.1]; omega) (unhide HB).size ?_)
          intro v' w6 hown hgr _ _
          have X : Hid (RwP w.heap.size w6 v' ([] ++ L1)) := hide (RwP.join (n := n1) (by rw [List.length_nil, Nat.zero_add]; exact hown) (unhide LN).1)
          have HB6 := hide (grow_below (unhide HB) (unhide HB).size (unhide RW).blk hgr)
          clear hown hgr g0 g1
          go_wp2
          go_roundw
          case rel => exact ⟨1, by omega, rfl, hide ⟨trivial, fun h => absurd h (by omega), fun _ => by simpa using unhide X, fun h => absurd h (by omega)⟩, HB6⟩
          case measure => simp [intOf]
        | 1, _, HV =>
          have rw1 := (unhide HV).2.2.1 rfl
          obtain ⟨a', c', rfl, _⟩ := rw1.sl
          have RW := hide rw1
          clear rw1 HV
          have K := hide (fun j u hu => cell_later (unhide HB) (unhide HK2 j u hu))
          go_wp2_with (at_builtin; refine wpList_append_own_at _ rfl (.tmp 31) (.tmp 32) 23 rfl w.heap.size 31 i0 (.agg #[.int .i64 0, .int .i64 0]) 2 16 Try.underlying23 hi hz0 hz1 hz2 rfl (by decide) _ _ _ rfl (unhide RW).row A2 n2 c2 (flatP L2) rfl (unhide HL2) (unhide K) (flat_one' _) (by have := unhide LN; simp only [List.length_nil, this.1]; unfold maxLen; omega) (by have := unhide LN; simp only [List.length_nil, this.1]; omega) (unhide HB).size ?_)
          intro v' w6 hown hgr _ _
          have X : Hid (RwP w.heap.size w6 v' (L1 ++ L2)) := hide (RwP.join hown (unhide LN).2)
          have HB6 := hide (grow_below (unhide HB) (unhide HB).size (unhide RW).blk hgr)
          clear hown hgr g0 g1
          go_wp2
          go_roundw
          case rel => exact ⟨2, by omega, rfl, hide ⟨trivial, fun h => absurd h (by omega), fun h => absurd h (by omega), fun _ => unhide X⟩, HB6⟩
          case measure => simp [intOf]
        | 2, _, HV =>
          have rw1 := (unhide HV).2.2.2 rfl
          obtain ⟨a', c', rfl, _⟩ := rw1.sl
          have RW := hide rw1
          clear rw1 HV g0 g1
          go_wp2
          go_ret
          exact ⟨_, rfl, unhide RW, unhide HB⟩
end Go.Proofs.Ytgoiodhofbkkdaa

/- slices.Concat of two rows of ints; JoinRuns of both sides, by value. No condition beyond those typed. Written by mkjn15.py. -/
import Derived.Test.YtcgbpcipdanfhaaDoorFs15
import Derived.Lib.AppendZeros
import Derived.Lib.AppendZerosOnto
import Derived.Maps.AppendAt
import Derived.Laws.AppendOwnNone
namespace Go.Proofs.YtcgbpcipdanfhaaDoor
open Go.RowKit
set_option linter.unusedVariables false
set_option maxRecDepth 100000
set_option linter.unusedSimpArgs false

theorem zero_len15 (m : Nat) : (Builtin.zeroCells (Value.int .i64 0).cells m).size = m := by simp [Builtin.zeroCells, Value.cells]
theorem RwI.join {B n : Nat} {w : World} {v : Value} {L M : List Int} (h : w.ownsRow B 3 1 v (L.length + n) (L.map (Value.int .i64) ++ M.map (Value.int .i64))) (hn : M.length = n) : RwI B w v (L ++ M) := ⟨by rw [List.map_append, List.length_append, hn]; exact h⟩
theorem RwI.ar {B : Nat} {w : World} {v : Value} {L : List Int} (h : RwI B w v L) : ∃ a c, v = .slice a L.length c ∧ Arg w a L.length c L := by
  rcases h.open with ⟨rfl, rfl⟩ | ⟨g, c, rfl, h1, h2, h3, h4, h5⟩
  · exact ⟨none, 0, rfl, .inl rfl, rfl, Nat.le_refl _, by unfold maxLen; omega, .inl ⟨rfl, rfl⟩⟩
  · exact ⟨_, c, rfl, .inr ⟨g, 0, rfl, h2, fun i hi => by simpa [hi] using h5 i hi⟩, rfl, h3, h4, .inr ⟨g, 0, rfl⟩⟩
set_option maxHeartbeats 4000000 in
theorem grow15 (m : Nat) (w : World) (hm : m ≤ 200) :
    Calls Tryd.prog 72 #[.slice none 0 0, .int .i64 m] w fun e w' => ∃ v, e = .returned v ∧ RwI w.heap.size w' v [] ∧ Below w.heap.size w w' := by
  obtain ⟨i0, hi0, hz0, hz1, hz2⟩ := info_parts Tryd.info3
  by_cases h0 : m = 0
  · subst h0
    go_enter Tryd.func72, Tryd.ntmps72
    go_wp2
    go_ret
    exact ⟨_, rfl, RwI.nil _ _, Below.refl _ _⟩
  · have hold : (Builtin.firstCells i0.size 0 (.slice none 0 0)).run Tryd.prog w.drew = .ok ([] : List Value).toArray w.drew := rfl
    have hrz : ∀ ty, (Builtin.append_ #[23, 3] ty #[.slice none 0 0, .int .i64 (m : Int)]).run Tryd.prog w = _ := fun ty => Lib.run_append_grow_zeros w 23 3 ty 3 i0 _ .i64 .i64 Tryd.underlying23 Tryd.underlying3 hi0 hz0 none 0 0 [] hold m (by omega) (by omega) (by omega) (by omega) (by rw [hz2]; omega) (by rw [hz2]; exact growslice_fits (by omega) (by omega))
    rw [Nat.zero_add] at hrz
    have hGn := grownCap_ge w m 0 3
    have hGm := grownCap_le_maxLen w m 0 3 (by unfold maxLen; omega)
    generalize grownCap w m 0 3 = G at *
    have hsz : (([] : List Value).toArray ++ Builtin.zeroCells (Value.int .i64 0).cells m ++ Builtin.zeroCells (Value.int .i64 0).cells (G - m)).size = G * 1 := by simp only [Array.size_append, zero_len15, List.size_toArray, List.length_nil]; omega
    generalize ([] : List Value).toArray ++ Builtin.zeroCells (Value.int .i64 0).cells m ++ Builtin.zeroCells (Value.int .i64 0).cells (G - m) = ROW at *
    have R1 : Hid (RwI w.heap.size (w.drew.alloc (.cells ROW 3)) (.slice (some ⟨w.heap.size, 0, none⟩) 0 G) []) := hide ⟨by simpa [] using World.ownsRow_made (base := w.heap.size) (e := 3) (size := 1) w.drew ROW G (Nat.le_refl _) hGm hsz⟩
    have B1 : Hid (Below w.heap.size w (w.drew.alloc (.cells ROW 3))) := hide ((Below.refl _ _).drew.alloc (Nat.le_refl _) _)
    generalize w.drew.alloc (.cells ROW 3) = W1 at *
    clear hsz hold
    have p1 : (0 : Int) < (m : Int) := by omega
    have p2 : ¬ ((m : Int) < 0) := by omega
    have p3 : (0 : Int) ≤ (G : Int) := by omega
    have p4 : IntKind.i64.wrap (m : Int) = (m : Int) := by rw [IntKind.wrap_i64]; omega
    unfold maxLen at hGm
    go_enter Tryd.func72, Tryd.ntmps72
    go_wp2_with (at_builtin; refine Lib.wpList_append_run _ rfl _ _ _ _ rfl _ _ rfl rfl _ _ (hrz _) ?_)
    go_ret
    exact ⟨_, rfl, unhide R1, unhide B1⟩
set_option maxHeartbeats 4000000 in
theorem concat15 (G : Nat) (A1 A2 : Addr) (n1 c1 n2 c2 : Nat) (L1 L2 : List Int) (w : World) (g0 : w.cell? ⟨G, 0, none⟩ = some (.slice (some A1) n1 c1)) (g1 : w.cell? ⟨G, 1, none⟩ = some (.slice (some A2) n2 c2))
    (h1 : L1.length = n1) (h2 : L2.length = n2) (k1 : ∀ j u, (L1.map (Value.int .i64))[j]? = some u → w.cell? (A1.add j) = some u) (k2 : ∀ j u, (L2.map (Value.int .i64))[j]? = some u → w.cell? (A2.add j) = some u) (b1 : n1 ≤ 100) (b2 : n2 ≤ 100) :
    Calls Tryd.prog 46 #[.slice (some ⟨G, 0, none⟩) 2 2] w fun e w' => ∃ v, e = .returned v ∧ RwI w.heap.size w' v (L1 ++ L2) ∧ Below w.heap.size w w' := by
  obtain ⟨i0, hi, hz0, hz1, hz2⟩ := info_parts Tryd.info3
  have HG := hide (And.intro g0 g1)
  have HK1 := hide k1
  have HK2 := hide k2
  have HL1 : Hid ((L1.map (Value.int .i64)).length = n1 * 1) := hide (by rw [List.length_map, h1, Nat.mul_one])
  have HL2 : Hid ((L2.map (Value.int .i64)).length = n2 * 1) := hide (by rw [List.length_map, h2, Nat.mul_one])
  have LN := hide (And.intro h1 h2)
  have CG := hide (fun w => grow15 (n1 + n2) w (by omega))
  clear k1 k2 h1 h2
  have a1 : IntKind.i64.wrap ((n1 : Int) + (n2 : Int)) = (n1 : Int) + (n2 : Int) := by rw [IntKind.wrap_i64]; omega
  have a2 : ¬ ((n1 : Int) < 0) := by omega
  have a3 : ¬ ((n1 : Int) + (n2 : Int) < 0) := by omega
  go_enter Tryd.func46, Tryd.ntmps46
  go_wp2
  go_loop [3, 11] (fun sv kv => ∃ k : Nat, k ≤ 2 ∧ kv = .int .i64 k ∧ Hid ((k = 0 → sv = .int .i64 0) ∧ (k = 1 → sv = .int .i64 n1) ∧ (k = 2 → sv = .int .i64 ((n1 : Int) + (n2 : Int))))) (fun _ kv => 2 - (intOf kv).toNat)
  case atStart => exact ⟨0, by omega, rfl, hide ⟨fun _ => rfl, fun h => absurd h (by omega), fun h => absurd h (by omega)⟩⟩
  case round =>
    obtain ⟨k, hk, rfl, HV⟩ := hrel
    match k, hk, HV with
    | 0, _, HV =>
      have e := (unhide HV).1 rfl
      subst e
      go_wp2
      go_round
      case rel => exact ⟨1, by omega, rfl, hide ⟨fun h => absurd h (by omega), fun _ => rfl, fun h => absurd h (by omega)⟩⟩
      case measure => simp [intOf]
    | 1, _, HV =>
      have e := (unhide HV).2.1 rfl
      subst e
      go_wp2
      go_round
      case rel => exact ⟨2, by omega, rfl, hide ⟨fun h => absurd h (by omega), fun h => absurd h (by omega), fun _ => rfl⟩⟩
      case measure => simp [intOf]
    | 2, _, HV =>
      have e := (unhide HV).2.2 rfl
      subst e
      have en : (n1 : Int) + (n2 : Int) = ((n1 + n2 : Nat) : Int) := by omega
      rw [en]
      clear g0 g1 en
      go_wp2_with fail
      refine (unhide CG _).mono ?_
      rintro e w1 ⟨v, rfl, rw1, hb⟩
      have RW0 := hide rw1
      have HB0 := hide hb
      have g0 := cell_later hb (unhide HG).1
      have g1 := cell_later hb (unhide HG).2
      clear rw1 hb CG
      go_wp2
      go_loopw [6, 27] (fun v kv wr => ∃ k : Nat, k ≤ 2 ∧ kv = .int .i64 k ∧ Hid (True ∧ (k = 0 → RwI w.heap.size wr v []) ∧ (k = 1 → RwI w.heap.size wr v L1) ∧ (k = 2 → RwI w.heap.size wr v (L1 ++ L2))) ∧ Hid (Below w.heap.size w wr)) (fun _ kv _ => 2 - (intOf kv).toNat)
      case atStart => exact ⟨0, by omega, rfl, hide ⟨trivial, fun _ => unhide RW0, fun h => absurd h (by omega), fun h => absurd h (by omega)⟩, HB0⟩
      case round =>
        clear RW0 HB0 g0 g1
        obtain ⟨k, hk, rfl, HV, HB⟩ := hrel
        have g0 := cell_later (unhide HB) (unhide HG).1
        have g1 := cell_later (unhide HB) (unhide HG).2
        match k, hk, HV with
        | 0, _, HV =>
          have rw1 := (unhide HV).2.1 rfl
          obtain ⟨a', c', rfl, _⟩ := rw1.sl
          have RW := hide rw1
          clear rw1 HV
          have K := hide (fun j u hu => cell_later (unhide HB) (unhide HK1 j u hu))
          go_wp2_with (at_builtin; refine wpList_append_own_at _ rfl (.tmp 31) (.tmp 32) 23 rfl w.heap.size 3 i0 (.int .i64 0) 1 8 Tryd.underlying23 hi hz0 hz1 hz2 rfl (by decide) _ _ _ rfl (unhide RW).row A1 n1 c1 (L1.map (Value.int .i64)) rfl (unhide HL1) (unhide K) (fun u hu => by simp only [List.mem_map] at hu; obtain ⟨x, _, rfl⟩ := hu; rfl) (by have := unhide LN; simp only [List.length_nil, this.1]; unfold maxLen; omega) (by have := unhide LN; simp only [List.length_nil, this.1]; omega) (unhide HB).size ?_)
          intro v' w6 hown hgr _ _
          have X : Hid (RwI w.heap.size w6 v' ([] ++ L1)) := hide (RwI.join (n := n1) (by rw [List.length_nil, Nat.zero_add]; exact hown) (unhide LN).1)
          have HB6 := hide ((unhide HB).grown hgr (unhide HB).size (unhide RW).blk)
          clear hown hgr g0 g1
          go_wp2
          go_roundw
          case rel => exact ⟨1, by omega, rfl, hide ⟨trivial, fun h => absurd h (by omega), fun _ => by simpa using unhide X, fun h => absurd h (by omega)⟩, HB6⟩
          case measure => simp [intOf]
        | 1, _, HV =>
          have rw1 := (unhide HV).2.2.1 rfl
          obtain ⟨a', c', rfl, _⟩ := rw1.sl
          have RW := hide rw1
          clear rw1 HV
          have K := hide (fun j u hu => cell_later (unhide HB) (unhide HK2 j u hu))
          go_wp2_with (at_builtin; refine wpList_append_own_at _ rfl (.tmp 31) (.tmp 32) 23 rfl w.heap.size 3 i0 (.int .i64 0) 1 8 Tryd.underlying23 hi hz0 hz1 hz2 rfl (by decide) _ _ _ rfl (unhide RW).row A2 n2 c2 (L2.map (Value.int .i64)) rfl (unhide HL2) (unhide K) (fun u hu => by simp only [List.mem_map] at hu; obtain ⟨x, _, rfl⟩ := hu; rfl) (by have := unhide LN; simp only [List.length_nil, this.1]; unfold maxLen; omega) (by have := unhide LN; simp only [List.length_nil, this.1]; omega) (unhide HB).size ?_)
          intro v' w6 hown hgr _ _
          have X : Hid (RwI w.heap.size w6 v' (L1 ++ L2)) := hide (RwI.join hown (unhide LN).2)
          have HB6 := hide ((unhide HB).grown hgr (unhide HB).size (unhide RW).blk)
          clear hown hgr g0 g1
          go_wp2
          go_roundw
          case rel => exact ⟨2, by omega, rfl, hide ⟨trivial, fun h => absurd h (by omega), fun h => absurd h (by omega), fun _ => unhide X⟩, HB6⟩
          case measure => simp [intOf]
        | 2, _, HV =>
          have rw1 := (unhide HV).2.2.2 rfl
          obtain ⟨a', c', rfl, _⟩ := rw1.sl
          have RW := hide rw1
          clear rw1 HV g0 g1
          go_wp2
          go_ret
          exact ⟨_, rfl, unhide RW, unhide HB⟩
/-- What JoinRuns tells. -/
def jB (l r : List (Int × Int)) : Bool := gRuns l && (gRuns r && rB15 (exN l ++ exN r))
def jV (l r : List (Int × Int)) : List (Int × Int) := if jB l r = true then rns (exN l ++ exN r) else []
theorem jV_eq {l r : List (Int × Int)} (h1 : gRuns l = true) (h2 : gRuns r = true) : jV l r = rV15 (exN l ++ exN r) ∧ jB l r = rB15 (exN l ++ exN r) := by unfold jV jB rV15; rw [h1, h2]; exact ⟨rfl, rfl⟩
theorem RtP.mono15 {B B' : Nat} {w : World} {a : Option Addr} {n c : Nat} {l : List (Int × Int)} (h : RtP B w a n c l) (hb : B' ≤ B) : RtP B' w a n c l := by
  refine ⟨h.len, ?_⟩
  rcases h.own with h0 | ⟨G', e, hB, ho⟩
  · exact .inl h0
  · exact .inr ⟨G', e, Nat.le_trans hb hB, ho⟩
set_option maxHeartbeats 4000000 in
theorem JoinRunsS (a : Option Addr) (n c : Nat) (l : List (Int × Int)) (b : Option Addr) (m d : Nat) (r : List (Int × Int)) (w : World) (h : ArP w a n c l) (h' : ArP w b m d r) (n1 : n ≤ 1048576) (m1 : m ≤ 1048576) :
    Calls Tryd.prog 25 #[.slice a n c, .slice b m d] w fun e w' => ∃ a' n' c', e = .returned (.tuple #[.slice a' n' c', .bool (jB l r)]) ∧ Below w.heap.size w w' ∧ RtP w.heap.size w' a' n' c' (jV l r) ∧ n' ≤ 1048576 := by
  have HA := hide h.sl
  have HA' := hide h'.sl
  have C1 := hide (fun w (k : SlP w a l) => gRunS a n c l w k h.len (by unfold maxLen; omega))
  have C2 := hide (fun w (k : SlP w b r) => gRunS b m d r w k h'.len (by unfold maxLen; omega))
  cases hg : gRuns l
  · have EB : jB l r = false := by unfold jB; rw [hg]; rfl
    have EV : jV l r = [] := by unfold jV; rw [EB]; rfl
    rw [EV, EB]
    rw [hg] at C1
    clear hg EV EB h h' C2 HA'
    go_enter Tryd.func25, Tryd.ntmps25
    go_wp2_with fail
    refine (unhide C1 _ (unhide HA)).mono ?_
    rintro e w1 ⟨rfl, hb⟩
    go_wp2_with fail
    go_ret2
    exact ⟨none, 0, 0, rfl, hb, rt_nil15, by omega⟩
  · cases hg' : gRuns r
    · have EB : jB l r = false := by unfold jB; rw [hg, hg']; rfl
      have EV : jV l r = [] := by unfold jV; rw [EB]; rfl
      rw [EV, EB]
      rw [hg] at C1
      rw [hg'] at C2
      clear hg hg' EV EB h h'
      go_enter Tryd.func25, Tryd.ntmps25
      go_wp2_with fail
      refine (unhide C1 _ (unhide HA)).mono ?_
      rintro e w1 ⟨rfl, hb⟩
      replace HA' := hide ((unhide HA').later hb)
      have HB := hide hb
      clear hb
      go_wp2_with fail
      refine (unhide C2 _ (unhide HA')).mono ?_
      rintro e w2 ⟨rfl, hb⟩
      replace HB := hide (below_on (unhide HB) hb)
      clear hb
      go_wp2_with fail
      go_ret2
      exact ⟨none, 0, 0, rfl, unhide HB, rt_nil15, by omega⟩
    · have EJ := jV_eq hg hg'
      rw [EJ.1, EJ.2]
      have C3 := hide (fun w (k : SlP w a l) => fromS a n c l w k h.len n1 hg)
      have C4 := hide (fun w (k : SlP w b r) => fromS b m d r w k h'.len m1 hg')
      have LB := hide (And.intro (exN_le hg) (exN_le hg'))
      rw [hg] at C1
      rw [hg'] at C2
      clear hg hg' EJ h h'
      go_enter Tryd.func25, Tryd.ntmps25
      go_wp2_with fail
      refine (unhide C1 _ (unhide HA)).mono ?_
      rintro e w1 ⟨rfl, hb⟩
      replace HA := hide ((unhide HA).later hb)
      replace HA' := hide ((unhide HA').later hb)
      have HB := hide hb
      clear hb
      go_wp2_with fail
      refine (unhide C2 _ (unhide HA')).mono ?_
      rintro e w2 ⟨rfl, hb⟩
      replace HA := hide ((unhide HA).later hb)
      replace HA' := hide ((unhide HA').later hb)
      replace HB := hide (below_on (unhide HB) hb)
      clear hb
      go_wp2_with fail
      refine (unhide C3 _ (unhide HA)).mono ?_
      rintro e w3 ⟨v, rfl, hb, hr⟩
      replace HA' := hide ((unhide HA').later hb)
      have HR := hide (hr.mono (unhide HB).size)
      replace HB := hide (below_on (unhide HB) hb)
      clear hb hr HA
      go_wp2_with fail
      refine (unhide C4 _ (unhide HA')).mono ?_
      rintro e w4 ⟨v2, rfl, hb, hr⟩
      replace HR := hide ((unhide HR).later hb)
      have HR' := hide (hr.mono (unhide HB).size)
      replace HB := hide (below_on (unhide HB) hb)
      clear hb hr HA' C1 C2 C3 C4
      obtain ⟨i0, hi0, hz0, hz1, hz2⟩ := info_parts Tryd.info3
      have NEWS : Hid (∃ ad m c, v2 = .slice ad m c ∧ m = (exN r).length) := hide (by obtain ⟨a', c', e, _⟩ := (unhide HR').sl; exact ⟨a', _, c', e, rfl⟩)
      rcases (unhide HR').open with ⟨rfl, er⟩ | ⟨g2, c2, rfl, p1, p2, p3, p4, p5⟩
      · obtain ⟨a5, c5, rfl, AR0⟩ := (unhide HR).ar
        have AR : Arg w4 a5 (exN l).length c5 (exN l ++ exN r) := by rw [er, List.append_nil]; exact AR0
        replace er := hide er
        go_wp2_with (at_builtin; refine wpList_append_own_none rfl (.tmp 15) (.tmp 17) 23 rfl w.heap.size 3 i0 1 Tryd.underlying23 hi0 _ _ _ rfl (unhide HR).row rfl ?_)
        clear HR HR'
        go_wp2_with fail
        refine (RunsOfS _ _ _ _ _ AR (by have := unhide LB; omega)).mono ?_
        rintro e w6 ⟨a', n', c', rfl, hb, rt, ln⟩
        have rt2 := rt.mono15 (unhide HB).size
        replace HB := hide (below_on (unhide HB) hb)
        clear hb
        go_wp2_with fail
        go_ret2
        exact ⟨_, _, _, rfl, unhide HB, rt2, ln⟩
      · go_wp2_with (at_builtin; refine wpList_append_own_at _ rfl (.tmp 15) (.tmp 17) 23 rfl w.heap.size 3 i0 (.int .i64 0) 1 8 Tryd.underlying23 hi0 hz0 hz1 hz2 rfl (by decide) _ _ _ rfl (unhide HR).row ⟨g2, 0, none⟩ (exN r).length c2 ((exN r).map (Value.int .i64)) rfl (by simp) ((unhide HR').row.cells (g := g2) rfl) (fun u hu => by simp only [List.mem_map] at hu; obtain ⟨x, _, rfl⟩ := hu; rfl) (by unfold maxLen; have := unhide LB; omega) (by have := unhide LB; omega) (unhide HB).size ?_)
        intro v' w5 hown hgr _ _
        have RJ := RwI.join hown rfl
        have hb : Below w.heap.size w w5 := (unhide HB).grown hgr (unhide HB).size (unhide HR).blk
        replace HB := hide hb
        obtain ⟨a5, c5, e5, AR⟩ := RJ.ar
        obtain ⟨q, hq⟩ : ∃ q, q = (exN l ++ exN r).length := ⟨_, rfl⟩
        rw [← hq] at e5 AR
        subst e5
        replace hq := hide hq
        clear hown hgr HR HR'
        clear hb
        go_wp2_with fail
        refine (RunsOfS _ _ _ _ _ AR (by have := unhide LB; have := unhide hq; rw [List.length_append] at this; omega)).mono ?_
        rintro e w6 ⟨a', n', c', rfl, hb, rt, ln⟩
        have rt2 := rt.mono15 (unhide HB).size
        replace HB := hide (below_on (unhide HB) hb)
        clear hb
        go_wp2_with fail
        go_ret2
        exact ⟨_, _, _, rfl, unhide HB, rt2, ln⟩
set_option maxHeartbeats 4000000 in
theorem JoinRunsI (a : Option Addr) (n c : Nat) (l : List (Int × Int)) (b : Option Addr) (m d : Nat) (r : List (Int × Int)) (w : World) (h : ArP w a n c l) (h' : ArP w b m d r) (n1 : n ≤ 1048576) (m1 : m ≤ 1048576) :
    Calls Tryd.prog 16 #[.slice a n c, .slice b m d] w fun e w' => ∃ a' n' c', e = .returned (.tuple #[.slice a' n' c', .bool (jB l r)]) ∧ Below w.heap.size w w' ∧ RtP w.heap.size w' a' n' c' (jV l r) ∧ n' ≤ 1048576 := by
  have HA := hide h.sl
  have HA' := hide h'.sl
  have C1 := hide (fun w (k : SlP w a l) => gRunI a n c l w k h.len (by unfold maxLen; omega))
  have C2 := hide (fun w (k : SlP w b r) => gRunI b m d r w k h'.len (by unfold maxLen; omega))
  cases hg : gRuns l
  · have EB : jB l r = false := by unfold jB; rw [hg]; rfl
    have EV : jV l r = [] := by unfold jV; rw [EB]; rfl
    rw [EV, EB]
    rw [hg] at C1
    clear hg EV EB h h' C2 HA'
    go_enter Tryd.func16, Tryd.ntmps16
    go_wp2_with fail
    refine (unhide C1 _ (unhide HA)).mono ?_
    rintro e w1 ⟨rfl, hb⟩
    go_wp2_with fail
    go_ret2
    exact ⟨none, 0, 0, rfl, hb, rt_nil15, by omega⟩
  · cases hg' : gRuns r
    · have EB : jB l r = false := by unfold jB; rw [hg, hg']; rfl
      have EV : jV l r = [] := by unfold jV; rw [EB]; rfl
      rw [EV, EB]
      rw [hg] at C1
      rw [hg'] at C2
      clear hg hg' EV EB h h'
      go_enter Tryd.func16, Tryd.ntmps16
      go_wp2_with fail
      refine (unhide C1 _ (unhide HA)).mono ?_
      rintro e w1 ⟨rfl, hb⟩
      replace HA' := hide ((unhide HA').later hb)
      have HB := hide hb
      clear hb
      go_wp2_with fail
      refine (unhide C2 _ (unhide HA')).mono ?_
      rintro e w2 ⟨rfl, hb⟩
      replace HB := hide (below_on (unhide HB) hb)
      clear hb
      go_wp2_with fail
      go_ret2
      exact ⟨none, 0, 0, rfl, unhide HB, rt_nil15, by omega⟩
    · have EJ := jV_eq hg hg'
      rw [EJ.1, EJ.2]
      have C3 := hide (fun w (k : SlP w a l) => rowI15 a n c l w k h.len n1 hg)
      have C4 := hide (fun w (k : SlP w b r) => rowI15 b m d r w k h'.len m1 hg')
      have LB := hide (And.intro (exN_le hg) (exN_le hg'))
      rw [hg] at C1
      rw [hg'] at C2
      clear hg hg' EJ h h'
      go_enter Tryd.func16, Tryd.ntmps16
      go_wp2_with fail
      refine (unhide C1 _ (unhide HA)).mono ?_
      rintro e w1 ⟨rfl, hb⟩
      replace HA := hide ((unhide HA).later hb)
      replace HA' := hide ((unhide HA').later hb)
      have HB := hide hb
      clear hb
      go_wp2_with fail
      refine (unhide C2 _ (unhide HA')).mono ?_
      rintro e w2 ⟨rfl, hb⟩
      replace HA := hide ((unhide HA).later hb)
      replace HA' := hide ((unhide HA').later hb)
      replace HB := hide (below_on (unhide HB) hb)
      clear hb
      go_wp2_with fail
      refine (unhide C3 _ (unhide HA)).mono ?_
      rintro e w3 ⟨g1, N1, rfl, hb, e1, l1, hr⟩
      replace e1 := hide e1
      replace HA' := hide ((unhide HA').later hb)
      have HR := hide (hr.mono (unhide HB).size)
      replace HB := hide (below_on (unhide HB) hb)
      clear hb hr HA
      go_wp2_with fail
      refine (unhide C4 _ (unhide HA')).mono ?_
      rintro e w4 ⟨g2, N2, rfl, hb, e2, l2, hr⟩
      replace e1 := unhide e1
      replace HR := hide ((unhide HR).later hb)
      have HR' := hide (hr.mono (unhide HB).size)
      replace HB := hide (below_on (unhide HB) hb)
      clear hb hr HA' C1 C2 C3 C4
      have K1 : Hid (∀ j u, ((exN l).map (Value.int .i64))[j]? = some u → w4.cell? ((⟨g1, 0, none⟩ : Addr).add j) = some u) := hide ((unhide HR).row.cells (g := g1) rfl)
      have K2 : Hid (∀ j u, ((exN r).map (Value.int .i64))[j]? = some u → w4.cell? ((⟨g2, 0, none⟩ : Addr).add j) = some u) := hide ((unhide HR').row.cells (g := g2) rfl)
      have EN := hide (And.intro e1 e2)
      clear e1 e2 HR HR'
      have BA : Below w4.heap.size w4 (w4.alloc (.cells #[.slice (some ⟨g1, 0, none⟩) N1 N1, .slice (some ⟨g2, 0, none⟩) N2 N2] 23)) := (Below.refl _ _).alloc (Nat.le_refl _) _
      have G0 : (w4.alloc (.cells #[.slice (some ⟨g1, 0, none⟩) N1 N1, .slice (some ⟨g2, 0, none⟩) N2 N2] 23)).cell? ⟨w4.heap.size, 0, none⟩ = some (.slice (some ⟨g1, 0, none⟩) N1 N1) := by simp [go_sem]
      have G1 : (w4.alloc (.cells #[.slice (some ⟨g1, 0, none⟩) N1 N1, .slice (some ⟨g2, 0, none⟩) N2 N2] 23)).cell? ⟨w4.heap.size, 1, none⟩ = some (.slice (some ⟨g2, 0, none⟩) N2 N2) := by simp [go_sem]
      replace K1 := hide (fun j u hu => cell_later BA (unhide K1 j u hu))
      replace K2 := hide (fun j u hu => cell_later BA (unhide K2 j u hu))
      replace HB := hide (below_on (unhide HB) BA)
      go_wp2_with fail
      refine (concat15 _ _ _ _ _ _ _ (exN l) (exN r) _ G0 G1 (unhide EN).1.symm (unhide EN).2.symm (unhide K1) (unhide K2) l1 l2).mono ?_
      rintro e w5 ⟨v, rfl, hr, hb⟩
      have RJ := hr.mono (unhide HB).size
      replace HB := hide (below_on (unhide HB) hb)
      obtain ⟨a5, c5, e5, AR⟩ := RJ.ar
      obtain ⟨q, hq⟩ : ∃ q, q = (exN l ++ exN r).length := ⟨_, rfl⟩
      rw [← hq] at e5 AR
      subst e5
      replace hq := hide hq
      clear hr G0 G1 K1 K2 BA
      clear hb
      go_wp2_with fail
      refine (RunsOfI _ _ _ _ _ AR (by have := unhide LB; have := unhide hq; rw [List.length_append] at this; omega)).mono ?_
      rintro e w6 ⟨a', n', c', rfl, hb, rt, ln⟩
      have rt2 := rt.mono15 (unhide HB).size
      replace HB := hide (below_on (unhide HB) hb)
      clear hb
      go_wp2_with fail
      go_ret2
      exact ⟨_, _, _, rfl, unhide HB, rt2, ln⟩
end Go.Proofs.YtcgbpcipdanfhaaDoor

/- Hulls: what the law asks of them. No condition beyond those typed. -/
import Derived.Test.YtgoiodhofbkkdaaPkB11
import Derived.Test.YtgoiodhofbkkdaaDrw8
import Derived.Test.YtgoiodhofbkkdaaPkC11
namespace Go.Proofs.Ytgoiodhofbkkdaa
open Go.RowKit
set_option linter.unusedVariables false
set_option maxRecDepth 100000
set_option linter.unusedSimpArgs false

theorem RwP.ar {B : Nat} {w : World} {v : Value} {L : List (Int × Int)} (h : RwP B w v L) : ∃ a c, v = .slice a L.length c ∧ ArP w a L.length c L := by
  obtain ⟨a, c, e, hs⟩ := h.sl
  refine ⟨a, c, e, hs, rfl, ?_, ?_⟩
  · rcases h.open with ⟨e2, rfl⟩ | ⟨g, c', e2, _, _, h3, _, _⟩
    · simp
    · rw [e] at e2; cases e2; exact h3
  · rcases h.open with ⟨e2, rfl⟩ | ⟨g, c', e2, _, _, _, h4, _⟩
    · rw [e] at e2; cases e2; unfold maxLen; omega
    · rw [e] at e2; cases e2; exact h4
theorem RwP.but {B C : Nat} {w w' : World} {v : Value} {L : List (Int × Int)} (h : RwP B w v L) (hb : But C (C + 1) w w') (hC : C < B) : RwP B w' v L := ⟨owns_but8 h.row hb hC⟩
/-- What a draw may tell of a cloud. -/
def ClD (C T : Nat) (w : World) (e : Ending) (w' : World) : Prop := ∃ (v : Value) (l : List (Int × Int)), e = .returned v ∧ RwP w.heap.size w' v l ∧ (∀ p ∈ l, Near p) ∧ l.length ≤ 17 ∧ Cur C T w' ∧ But C (C + 1) w w'
theorem near_xx {p : Int × Int} (h : Near p) : Near (p.1, p.1) := ⟨h.x0, h.x1, h.x0, h.x1⟩
theorem near_snoc {us : List (Int × Int)} {p : Int × Int} (h : ∀ q ∈ us, Near q) (hp : Near p) : ∀ q ∈ us ++ [p], Near q := by
  intro q hq
  rcases List.mem_append.1 hq with hq | hq
  · exact h q hq
  · rw [List.mem_singleton] at hq; rw [hq]; exact hp
set_option maxHeartbeats 8000000 in
theorem cloud_v (C T : Nat) (w : World) (h : Cur C T w) (hT : T ≤ 800000) :
    Calls Try.prog 43 #[.pointer (some ⟨C, 0, none⟩)] w (ClD C (T + 200) w) := by
  obtain ⟨i0, hi, hz0, hz1, hz2⟩ := info_parts infoPt
  have ltC := h.lt
  have CU := hide h
  have BT : Hid (But C (C + 1) w w) := hide (But.refl _ _ _)
  clear h
  go_enter Try.func43, Try.ntmps43
  go_wp2_with fail
  refine (pick_v C T 10 _ (unhide CU) (by omega) (by omega)).mono ?_
  rintro e w1 ⟨x, rfl, x0, x1, x2, c1, bt⟩
  replace CU := hide c1
  replace BT := hide ((unhide BT).trans bt)
  replace x1 := x1 (by omega)
  clear c1 bt x2
  have wx : IntKind.i64.wrap (1 + x) = 1 + x := by rw [IntKind.wrap_i64]; omega
  go_wp2_with fail
  refine (one_v C (T + 2) 20 _ (unhide CU) (by omega) (by omega)).mono ?_
  rintro e w2 ⟨b, rfl, c1, bt⟩
  replace CU := hide c1
  replace BT := hide ((unhide BT).trans bt)
  clear c1 bt
  cases b
  · obtain ⟨n0, hn0⟩ : ∃ n0 : Nat, 1 + x = (n0 : Int) := ⟨(1 + x).toNat, by omega⟩
    have n17 : n0 ≤ 17 := by omega
    rw [hn0]
    clear hn0 wx x0 x1
    go_wp2
    go_loopw [3, 4] (fun v nv wr => ∃ (j m : Nat) (us : List (Int × Int)), j + m = n0 ∧ nv = .int .i64 m ∧ us.length = j ∧ Hid (∀ p ∈ us, Near p) ∧ Hid (RwP w.heap.size wr v us) ∧ Hid (Cur C (T + 8 + 8 * j) wr) ∧ Hid (But C (C + 1) w wr)) (fun _ nv _ => (intOf nv).toNat)
    case atStart => exact ⟨0, n0, [], by omega, rfl, rfl, hide (fun p hp => absurd hp (by simp)), hide (RwP.nil _ _), hide ((unhide CU).mono (by omega)), BT⟩
    case round =>
      clear CU BT
      obtain ⟨j, m, us, hjm, rfl, hl, NR, HO, CU, BT⟩ := hrel
      have LU := hide hl
      obtain ⟨av, cv, rfl, _⟩ := (unhide HO).ar
      by_cases hm : m = 0
      · subst hm
        have lu := hl
        go_wp2
        go_ret
        exact ⟨_, us, rfl, unhide HO, unhide NR, by omega, (unhide CU).mono (by omega), unhide BT⟩
      · obtain ⟨k, rfl⟩ : ∃ k, m = k + 1 := ⟨m - 1, by omega⟩
        have g0 : (0 : Int) < ((k + 1 : Nat) : Int) := by omega
        have wk : IntKind.i64.wrap (((k + 1 : Nat) : Int) - 1) = (k : Int) := by rw [IntKind.wrap_i64]; omega
        have sr := (unhide BT).size
        clear hl
        go_wp2_with fail
        refine (pt_v C (T + 8 + 8 * j) _ (unhide CU) (by omega)).mono ?_
        rintro e w3 ⟨p, rfl, np, c1, bt⟩
        have al : Below w3.heap.size w3 (w3.alloc (.cells #[.int .i64 p.1, .int .i64 p.2] 31)) := (Below.refl _ _).alloc (Nat.le_refl _) _
        have s3 := bt.size
        replace CU := hide (c1.later al)
        have HO3 := hide ((unhide HO).but bt ltC)
        have HOB := hide (fun q hq => (own_lt (unhide HO3) q hq).2)
        replace HO := hide ((unhide HO3).later al)
        clear HO3
        replace BT := hide (((unhide BT).trans bt).on (al.mono (by omega)))
        have BX : Hid (BxP (w3.alloc (.cells #[.int .i64 p.1, .int .i64 p.2] 31)) w3.heap.size p.1 p.2) := hide BxP.new
        have NP := hide np
        clear c1 bt al np
        go_upto_region 8 with fail
        generalize hw4 : w3.alloc (.cells #[.int .i64 p.1, .int .i64 p.2] 31) = w4 at *
        have s4 : w3.heap.size < w4.heap.size := by rw [← hw4]; simp
        clear hw4
        go_wp2_with fail
        refine (one_v C (T + 8 + 8 * j + 6) 12 _ (unhide CU) (by omega) (by omega)).mono ?_
        rintro e w5 ⟨b, rfl, c1, bt⟩
        replace CU := hide c1
        replace BT := hide ((unhide BT).trans bt)
        replace HO := hide ((unhide HO).but bt ltC)
        replace BX := hide ((unhide BX).keep bt (.inr (by omega)))
        have s5 := bt.size
        clear c1 bt
        cases b
        · have e0 := (unhide BX).c0
          have e1 := (unhide BX).c1
          have BS := (unhide BT).size
          have RA := hide ((unhide HO).row)
          go_wp2_with (at_builtin; refine wpList_append_own _ rfl (.tmp 25) (.tmp 27) 23 rfl w.heap.size 31 i0 (.agg #[.int .i64 0, .int .i64 0]) 2 16 Try.underlying23 hi hz0 hz1 hz2 rfl (by decide) _ _ _ rfl ((unhide RA).alloc _) ⟨_, 0, none⟩ 1 1 [.int .i64 p.1, .int .i64 p.2] rfl rfl (new_cellP _ _ _) (fun u hu => by simp at hu; rcases hu with rfl | rfl <;> rfl) (by rw [unhide LU]; unfold maxLen; omega) (by rw [unhide LU]; omega) (by simp; omega) ?_)
          intro v' w7 hown hgr _
          have HO2 : Hid (RwP w.heap.size w7 v' (us ++ [(p.1, p.2)])) := hide (RwP.snoc (p := (p.1, p.2)) hown)
          have PB := hide (push_belowP (Below.refl w.heap.size _) BS (unhide RA) hgr)
          replace CU := hide ((unhide CU).below (unhide PB) ltC)
          replace BT := hide ((unhide BT).on (unhide PB))
          have LU2 : Hid ((us ++ [(p.1, p.2)]).length = j + 1) := hide (by simp; exact unhide LU)
          have NR2 := hide (near_snoc (unhide NR) (unhide NP))
          clear hown hgr PB RA e0 e1
          go_wp2
          go_roundw
          case rel => exact ⟨j + 1, k, us ++ [(p.1, p.2)], by omega, by go_num, unhide LU2, NR2, HO2, hide ((unhide CU).mono (by omega)), BT⟩
          case measure => simp [intOf] <;> omega
        · have e0 := (unhide BX).c0
          have e1 := (unhide BX).c1
          have ef := (unhide BX).fz
          have HO6 := hide ((unhide HO).grown' (grown_setc (w := w5) (g := w3.heap.size) (k := 1) (x := .int .i64 p.1)) (fun q hq e => by cases e; have := unhide HOB _ hq; omega))
          have sb : Below w.heap.size w5 (w5.setCell ⟨w3.heap.size, 1, none⟩ (.int .i64 p.1)) := (Below.refl _ _).setCell (by show w.heap.size ≤ w3.heap.size; omega) _
          have CU6 := hide ((unhide CU).below sb ltC)
          have BT6 := hide ((unhide BT).on sb)
          have f0 : (w5.setCell ⟨w3.heap.size, 1, none⟩ (.int .i64 p.1)).cell? ⟨w3.heap.size, 0, none⟩ = some (.int .i64 p.1) := sc_other e0 (by omega)
          have f1 : (w5.setCell ⟨w3.heap.size, 1, none⟩ (.int .i64 p.1)).cell? ⟨w3.heap.size, 1, none⟩ = some (.int .i64 p.1) := sc_same e1
          go_upto_region 10 with fail
          clear e0 e1 ef sb CU BT HO
          have HO := HO6
          have CU := CU6
          have BT := BT6
          have e0 := f0
          have e1 := f1
          clear HO6 CU6 BT6 f0 f1
          generalize w5.setCell ⟨w3.heap.size, 1, none⟩ (.int .i64 p.1) = w6 at *
          have BS := (unhide BT).size
          have RA := hide ((unhide HO).row)
          go_wp2_with (at_builtin; refine wpList_append_own _ rfl (.tmp 25) (.tmp 27) 23 rfl w.heap.size 31 i0 (.agg #[.int .i64 0, .int .i64 0]) 2 16 Try.underlying23 hi hz0 hz1 hz2 rfl (by decide) _ _ _ rfl ((unhide RA).alloc _) ⟨_, 0, none⟩ 1 1 [.int .i64 p.1, .int .i64 p.1] rfl rfl (new_cellP _ _ _) (fun u hu => by simp at hu; rcases hu with rfl | rfl <;> rfl) (by rw [unhide LU]; unfold maxLen; omega) (by rw [unhide LU]; omega) (by simp; omega) ?_)
          intro v' w7 hown hgr _
          have HO2 : Hid (RwP w.heap.size w7 v' (us ++ [(p.1, p.1)])) := hide (RwP.snoc (p := (p.1, p.1)) hown)
          have PB := hide (push_belowP (Below.refl w.heap.size _) BS (unhide RA) hgr)
          replace CU := hide ((unhide CU).below (unhide PB) ltC)
          replace BT := hide ((unhide BT).on (unhide PB))
          have LU2 : Hid ((us ++ [(p.1, p.1)]).length = j + 1) := hide (by simp; exact unhide LU)
          have NR2 := hide (near_snoc (unhide NR) (near_xx (unhide NP)))
          clear hown hgr PB RA e0 e1
          go_wp2
          go_roundw
          case rel => exact ⟨j + 1, k, us ++ [(p.1, p.1)], by omega, by go_num, unhide LU2, NR2, HO2, hide ((unhide CU).mono (by omega)), BT⟩
          case measure => simp [intOf] <;> omega
  · have al : Below w2.heap.size w2 (w2.alloc (.cells #[.int .i64 0, .int .i64 16, .int .i64 17] 3)) := (Below.refl _ _).alloc (Nat.le_refl _) _
    replace CU := hide ((unhide CU).later al)
    have sz1 := (unhide BT).size
    replace BT := hide ((unhide BT).on (al.mono sz1))
    have HC : Hid (∀ i, i < 3 → (w2.alloc (.cells #[.int .i64 0, .int .i64 16, .int .i64 17] 3)).cell? ⟨w2.heap.size, 0 + i, none⟩ = some (.int .i64 ([0, 16, 17].getD i 0))) := hide (fun i hi => by
      match i, hi with
      | 0, _ => simp [go_sem]
      | 1, _ => simp [go_sem]
      | 2, _ => simp [go_sem])
    clear al
    go_wp2_with fail
    refine (among_v C (T + 2 + 2) w2.heap.size 0 3 3 [0, 16, 17] _ (unhide CU) (by omega) (by omega) (by omega) rfl (by omega) (by simp) (unhide HC)).mono ?_
    rintro e w3 ⟨y, rfl, ym, c1, bt⟩
    replace CU := hide c1
    replace BT := hide ((unhide BT).trans bt)
    clear c1 bt HC
    obtain ⟨n0, hn0, n17⟩ : ∃ n0 : Nat, y = (n0 : Int) ∧ n0 ≤ 17 := ⟨y.toNat, by simp at ym; omega, by simp at ym; omega⟩
    subst hn0
    clear ym wx x0 x1 sz1
    go_wp2
    go_loopw [3, 4] (fun v nv wr => ∃ (j m : Nat) (us : List (Int × Int)), j + m = n0 ∧ nv = .int .i64 m ∧ us.length = j ∧ Hid (∀ p ∈ us, Near p) ∧ Hid (RwP w.heap.size wr v us) ∧ Hid (Cur C (T + 8 + 8 * j) wr) ∧ Hid (But C (C + 1) w wr)) (fun _ nv _ => (intOf nv).toNat)
    case atStart => exact ⟨0, n0, [], by omega, rfl, rfl, hide (fun p hp => absurd hp (by simp)), hide (RwP.nil _ _), hide ((unhide CU).mono (by omega)), BT⟩
    case round =>
      clear CU BT
      obtain ⟨j, m, us, hjm, rfl, hl, NR, HO, CU, BT⟩ := hrel
      have LU := hide hl
      obtain ⟨av, cv, rfl, _⟩ := (unhide HO).ar
      by_cases hm : m = 0
      · subst hm
        have lu := hl
        go_wp2
        go_ret
        exact ⟨_, us, rfl, unhide HO, unhide NR, by omega, (unhide CU).mono (by omega), unhide BT⟩
      · obtain ⟨k, rfl⟩ : ∃ k, m = k + 1 := ⟨m - 1, by omega⟩
        have g0 : (0 : Int) < ((k + 1 : Nat) : Int) := by omega
        have wk : IntKind.i64.wrap (((k + 1 : Nat) : Int) - 1) = (k : Int) := by rw [IntKind.wrap_i64]; omega
        have sr := (unhide BT).size
        clear hl
        go_wp2_with fail
        refine (pt_v C (T + 8 + 8 * j) _ (unhide CU) (by omega)).mono ?_
        rintro e w3 ⟨p, rfl, np, c1, bt⟩
        have al : Below w3.heap.size w3 (w3.alloc (.cells #[.int .i64 p.1, .int .i64 p.2] 31)) := (Below.refl _ _).alloc (Nat.le_refl _) _
        have s3 := bt.size
        replace CU := hide (c1.later al)
        have HO3 := hide ((unhide HO).but bt ltC)
        have HOB := hide (fun q hq => (own_lt (unhide HO3) q hq).2)
        replace HO := hide ((unhide HO3).later al)
        clear HO3
        replace BT := hide (((unhide BT).trans bt).on (al.mono (by omega)))
        have BX : Hid (BxP (w3.alloc (.cells #[.int .i64 p.1, .int .i64 p.2] 31)) w3.heap.size p.1 p.2) := hide BxP.new
        have NP := hide np
        clear c1 bt al np
        go_upto_region 8 with fail
        generalize hw4 : w3.alloc (.cells #[.int .i64 p.1, .int .i64 p.2] 31) = w4 at *
        have s4 : w3.heap.size < w4.heap.size := by rw [← hw4]; simp
        clear hw4
        go_wp2_with fail
        refine (one_v C (T + 8 + 8 * j + 6) 12 _ (unhide CU) (by omega) (by omega)).mono ?_
        rintro e w5 ⟨b, rfl, c1, bt⟩
        replace CU := hide c1
        replace BT := hide ((unhide BT).trans bt)
        replace HO := hide ((unhide HO).but bt ltC)
        replace BX := hide ((unhide BX).keep bt (.inr (by omega)))
        have s5 := bt.size
        clear c1 bt
        cases b
        · have e0 := (unhide BX).c0
          have e1 := (unhide BX).c1
          have BS := (unhide BT).size
          have RA := hide ((unhide HO).row)
          go_wp2_with (at_builtin; refine wpList_append_own _ rfl (.tmp 25) (.tmp 27) 23 rfl w.heap.size 31 i0 (.agg #[.int .i64 0, .int .i64 0]) 2 16 Try.underlying23 hi hz0 hz1 hz2 rfl (by decide) _ _ _ rfl ((unhide RA).alloc _) ⟨_, 0, none⟩ 1 1 [.int .i64 p.1, .int .i64 p.2] rfl rfl (new_cellP _ _ _) (fun u hu => by simp at hu; rcases hu with rfl | rfl <;> rfl) (by rw [unhide LU]; unfold maxLen; omega) (by rw [unhide LU]; omega) (by simp; omega) ?_)
          intro v' w7 hown hgr _
          have HO2 : Hid (RwP w.heap.size w7 v' (us ++ [(p.1, p.2)])) := hide (RwP.snoc (p := (p.1, p.2)) hown)
          have PB := hide (push_belowP (Below.refl w.heap.size _) BS (unhide RA) hgr)
          replace CU := hide ((unhide CU).below (unhide PB) ltC)
          replace BT := hide ((unhide BT).on (unhide PB))
          have LU2 : Hid ((us ++ [(p.1, p.2)]).length = j + 1) := hide (by simp; exact unhide LU)
          have NR2 := hide (near_snoc (unhide NR) (unhide NP))
          clear hown hgr PB RA e0 e1
          go_wp2
          go_roundw
          case rel => exact ⟨j + 1, k, us ++ [(p.1, p.2)], by omega, by go_num, unhide LU2, NR2, HO2, hide ((unhide CU).mono (by omega)), BT⟩
          case measure => simp [intOf] <;> omega
        · have e0 := (unhide BX).c0
          have e1 := (unhide BX).c1
          have ef := (unhide BX).fz
          have HO6 := hide ((unhide HO).grown' (grown_setc (w := w5) (g := w3.heap.size) (k := 1) (x := .int .i64 p.1)) (fun q hq e => by cases e; have := unhide HOB _ hq; omega))
          have sb : Below w.heap.size w5 (w5.setCell ⟨w3.heap.size, 1, none⟩ (.int .i64 p.1)) := (Below.refl _ _).setCell (by show w.heap.size ≤ w3.heap.size; omega) _
          have CU6 := hide ((unhide CU).below sb ltC)
          have BT6 := hide ((unhide BT).on sb)
          have f0 : (w5.setCell ⟨w3.heap.size, 1, none⟩ (.int .i64 p.1)).cell? ⟨w3.heap.size, 0, none⟩ = some (.int .i64 p.1) := sc_other e0 (by omega)
          have f1 : (w5.setCell ⟨w3.heap.size, 1, none⟩ (.int .i64 p.1)).cell? ⟨w3.heap.size, 1, none⟩ = some (.int .i64 p.1) := sc_same e1
          go_upto_region 10 with fail
          clear e0 e1 ef sb CU BT HO
          have HO := HO6
          have CU := CU6
          have BT := BT6
          have e0 := f0
          have e1 := f1
          clear HO6 CU6 BT6 f0 f1
          generalize w5.setCell ⟨w3.heap.size, 1, none⟩ (.int .i64 p.1) = w6 at *
          have BS := (unhide BT).size
          have RA := hide ((unhide HO).row)
          go_wp2_with (at_builtin; refine wpList_append_own _ rfl (.tmp 25) (.tmp 27) 23 rfl w.heap.size 31 i0 (.agg #[.int .i64 0, .int .i64 0]) 2 16 Try.underlying23 hi hz0 hz1 hz2 rfl (by decide) _ _ _ rfl ((unhide RA).alloc _) ⟨_, 0, none⟩ 1 1 [.int .i64 p.1, .int .i64 p.1] rfl rfl (new_cellP _ _ _) (fun u hu => by simp at hu; rcases hu with rfl | rfl <;> rfl) (by rw [unhide LU]; unfold maxLen; omega) (by rw [unhide LU]; omega) (by simp; omega) ?_)
          intro v' w7 hown hgr _
          have HO2 : Hid (RwP w.heap.size w7 v' (us ++ [(p.1, p.1)])) := hide (RwP.snoc (p := (p.1, p.1)) hown)
          have PB := hide (push_belowP (Below.refl w.heap.size _) BS (unhide RA) hgr)
          replace CU := hide ((unhide CU).below (unhide PB) ltC)
          replace BT := hide ((unhide BT).on (unhide PB))
          have LU2 : Hid ((us ++ [(p.1, p.1)]).length = j + 1) := hide (by simp; exact unhide LU)
          have NR2 := hide (near_snoc (unhide NR) (near_xx (unhide NP)))
          clear hown hgr PB RA e0 e1
          go_wp2
          go_roundw
          case rel => exact ⟨j + 1, k, us ++ [(p.1, p.1)], by omega, by go_num, unhide LU2, NR2, HO2, hide ((unhide CU).mono (by omega)), BT⟩
          case measure => simp [intOf] <;> omega
end Go.Proofs.Ytgoiodhofbkkdaa
namespace Go.Proofs.Ytgoiodhofbkkdaa
open Go.RowKit
set_option linter.unusedVariables false
set_option maxRecDepth 100000
set_option linter.unusedSimpArgs false

set_option maxHeartbeats 2000000 in
theorem HullOfR (a : Option Addr) (n c : Nat) (l : List (Int × Int)) (w : World) (h : ArP w a n c l) (h1 : n ≤ 1048576) :
    Calls Try.prog 14 #[.slice a n c] w fun e w' => ∃ v, e = .returned (.tuple #[v, .bool (cloB l)]) ∧ Below w.heap.size w w' ∧ RwP w.heap.size w' v (huV l) := by
  have hn := h.len
  have HS := hide h.sl
  have C1 := hide (fun w (k : SlP w a l) => cloudS a n c l w k hn (by unfold maxLen; omega))
  unfold huV
  clear h
  cases hp : cloB l
  · rw [hp] at C1
    simp only [Bool.false_eq_true, if_false]
    clear hp
    go_enter Try.func14, Try.ntmps14
    go_wp2_with fail
    refine (unhide C1 _ (unhide HS)).mono ?_
    rintro e w1 ⟨rfl, hb⟩
    go_wp2_with fail
    go_ret2
    exact ⟨_, rfl, hb, RwP.nil _ _⟩
  · rw [hp] at C1
    simp only [if_true]
    have cp := clo_parts hp
    have cn : ∀ p ∈ l, Near p := fun p hq => near_of (cp.2 p hq)
    have C2 := hide (fun w (k : SlP w a l) => hullS a n c l w k hn (by have := cp.1; omega) cn)
    generalize hulV l = S at *
    clear hp hn cp cn
    go_enter Try.func14, Try.ntmps14
    go_wp2_with fail
    refine (unhide C1 _ (unhide HS)).mono ?_
    rintro e w1 ⟨rfl, hb⟩
    have HB := hide hb
    replace HS := hide ((unhide HS).later hb)
    clear hb C1
    go_wp2_with fail
    refine (unhide C2 _ (unhide HS)).mono ?_
    rintro e w2 ⟨v, rfl, hb, rw2⟩
    obtain ⟨a', c', rfl, _⟩ := rw2.sl
    have HB2 := hide (below_on (unhide HB) hb)
    have RT := hide (rw2.mono (unhide HB).size)
    clear hb rw2 C2
    go_wp2_with fail
    go_ret2
    exact ⟨_, rfl, unhide HB2, unhide RT⟩
set_option maxHeartbeats 4000000 in
theorem drawHO (a : Option Addr) (n c : Nat) (w : World) (h : ArY w a n) :
    Calls Try.prog 12 #[.slice a n c] w (OutWy w) := by
  have CU : Hid (Cur (w.heap.size) 0 (w.alloc (.cells #[.slice a n c, .int .i64 0, .int .u64 0] 59))) := hide (Cur.new (w := w) h)
  have BW : Hid (Below w.heap.size w (w.alloc (.cells #[.slice a n c, .int .i64 0, .int .u64 0] 59))) := hide ((Below.refl _ _).alloc (Nat.le_refl _) _)
  have s0 : w.heap.size + 1 ≤ (w.alloc (.cells #[.slice a n c, .int .i64 0, .int .u64 0] 59)).heap.size := by simp
  clear h
  go_enter Try.func12, Try.ntmps12
  go_wp2_with fail
  refine (cloud_v (w.heap.size) 0 _ (unhide CU) (by omega)).mono ?_
  rintro e w1 ⟨v, l, rfl, rw1, nr, hm, c1, bt⟩
  obtain ⟨a1, c1', rfl, ar⟩ := rw1.ar
  have BW2 := hide (bt.below (unhide BW) (by omega) (by omega))
  have AR := hide ar
  have NR := hide nr
  have HM := hide hm
  clear ar nr rw1 bt c1 CU BW hm
  go_wp2_with fail
  go_ret
  exact ⟨a1, _, c1', l, rfl, unhide AR, unhide NR, by have := unhide HM; omega, unhide BW2⟩
theorem drawWI (a : Option Addr) (n c : Nat) (w : World) (h : ArY w a n) :
    Calls Try.prog 23 #[.slice a n c] w (OutWy w) := by
  have H := hide h
  clear h
  go_enter Try.func23, Try.ntmps23
  go_wp2_with fail
  refine (drawHO a n c _ (unhide H)).mono ?_
  rintro e w1 ⟨a1, m1, c1, l, rfl, ar, nr, hm, hb⟩
  have AR := hide ar
  clear ar
  go_wp2_with fail
  go_ret
  exact ⟨a1, m1, c1, l, rfl, unhide AR, nr, hm, hb⟩
/-- Two slices of points that are drawn. -/
def OutTw (w : World) (e : Ending) (w' : World) : Prop := ∃ (a : Option Addr) (n c : Nat) (l : List (Int × Int)) (b : Option Addr) (m d : Nat) (r : List (Int × Int)), e = .returned (.tuple #[.slice a n c, .slice b m d]) ∧ ArP w' a n c l ∧ ArP w' b m d r ∧ n ≤ 20 ∧ m ≤ 40 ∧ Below w.heap.size w w'
theorem huv_len (l : List (Int × Int)) : (huV l).length ≤ 2 * l.length := by
  unfold huV
  split
  · exact hul_len l
  · simp
set_option maxHeartbeats 4000000 in
theorem drawIH (a : Option Addr) (n c : Nat) (w : World) (h : ArY w a n) :
    Calls Try.prog 21 #[.slice a n c] w (OutTw w) := by
  have CU : Hid (Cur (w.heap.size) 0 (w.alloc (.cells #[.slice a n c, .int .i64 0, .int .u64 0] 59))) := hide (Cur.new (w := w) h)
  have BW : Hid (Below w.heap.size w (w.alloc (.cells #[.slice a n c, .int .i64 0, .int .u64 0] 59))) := hide ((Below.refl _ _).alloc (Nat.le_refl _) _)
  have s0 : w.heap.size + 1 ≤ (w.alloc (.cells #[.slice a n c, .int .i64 0, .int .u64 0] 59)).heap.size := by simp
  clear h
  go_enter Try.func21, Try.ntmps21
  go_wp2_with fail
  refine (cloud_v (w.heap.size) 0 _ (unhide CU) (by omega)).mono ?_
  rintro e w1 ⟨v, l, rfl, rw1, nr, hm, c1, bt⟩
  obtain ⟨a1, c1', rfl, ar⟩ := rw1.ar
  have BW2 := hide (bt.below (unhide BW) (by omega) (by omega))
  have s1 := bt.size
  have AR := hide ar
  have R1 := hide rw1
  replace CU := hide c1
  have lw := (own_lt rw1)
  have L1 := hide lw
  have HL := huv_len l
  clear ar nr rw1 bt c1 BW lw
  go_wp2_with fail
  refine (HullOfR a1 _ c1' l _ (unhide AR) (by omega)).mono ?_
  rintro e w2 ⟨v2, rfl, hb, rw2⟩
  replace R1 := hide ((unhide R1).later hb)
  replace CU := hide ((unhide CU).later hb)
  have BW3 := hide (below_on (unhide BW2) hb)
  have s2 := hb.size
  obtain ⟨a2, c2', rfl, ar2⟩ := rw2.ar
  have R2 := hide rw2
  clear rw2 hb BW2 AR ar2
  generalize huV l = H at *
  by_cases hz : H.length = 0
  · have e0 : H = [] := List.length_eq_zero_iff.1 hz
    subst e0
    obtain ⟨a3, c3, e3, ar1⟩ := (unhide R1).ar
    cases e3
    obtain ⟨a4, c4, e4, ar2⟩ := (unhide R2).ar
    cases e4
    have A1 := hide ar1
    have A2 := hide ar2
    clear ar1 ar2
    go_wp2_with fail
    go_ret2
    exact ⟨_, _, _, l, _, _, _, [], rfl, unhide A1, unhide A2, by omega, by simp, unhide BW3⟩
  · have hp : (0 : Int) < (H.length : Int) := by omega
    go_wp2_with fail
    refine (one_v (w.heap.size) 200 3 _ (unhide CU) (by omega) (by omega)).mono ?_
    rintro e w3 ⟨b, rfl, c1, bt⟩
    replace CU := hide c1
    replace R1 := hide ((unhide R1).but bt (by omega))
    replace R2 := hide ((unhide R2).but bt (by omega))
    have BW4 := hide (bt.below (unhide BW3) (by omega) (by omega))
    have s3 := bt.size
    clear c1 bt BW3
    cases b
    · obtain ⟨a3, c3, e3, ar1⟩ := (unhide R1).ar
      cases e3
      obtain ⟨a4, c4, e4, ar2⟩ := (unhide R2).ar
      cases e4
      have A1 := hide ar1
      have A2 := hide ar2
      clear ar1 ar2
      go_wp2_with fail
      go_ret2
      exact ⟨_, _, _, l, _, _, _, H, rfl, unhide A1, unhide A2, by omega, by omega, unhide BW4⟩
    · go_wp2_with fail
      refine (pick_v (w.heap.size) (200 + 2) (H.length : Int) _ (unhide CU) (by omega) (by omega)).mono ?_
      rintro e w4 ⟨x, rfl, x0, x1, x2, c1, bt⟩
      replace x1 := x1 (by omega)
      replace CU := hide c1
      replace R1 := hide ((unhide R1).but bt (by omega))
      replace R2 := hide ((unhide R2).but bt (by omega))
      have BW5 := hide (bt.below (unhide BW4) (by omega) (by omega))
      have s4 := bt.size
      clear c1 bt BW4 x2
      obtain ⟨k, rfl⟩ : ∃ k : Nat, x = (k : Int) := ⟨x.toNat, by omega⟩
      go_wp2_with fail
      refine (pt_v (w.heap.size) (200 + 2 + 2) _ (unhide CU) (by omega)).mono ?_
      rintro e w5 ⟨p, rfl, np, c1, bt⟩
      replace R1 := hide ((unhide R1).but bt (by omega))
      replace R2 := hide ((unhide R2).but bt (by omega))
      have BW6 := hide (bt.below (unhide BW5) (by omega) (by omega))
      have s5 := bt.size
      clear c1 bt BW5 np CU
      rcases (unhide R2).open with ⟨_, h⟩ | ⟨g, cg, eg, gB, gw, gc, gm, hcc⟩
      · rw [h] at hz; simp at hz
      clear hcc
      cases eg
      have kl : k < H.length := by omega
      have o0 := ((unhide R2).at_ kl).1
      have o1 := ((unhide R2).at_ kl).2
      have of : ∀ o, w5.frozen? ⟨g, o, none⟩ = false := fun o => (unhide R2).row.frozenAt o
      have kI : (k : Int) < (H.length : Int) := by omega
      have RP := hide ((unhide R2).put k p)
      have R1P := hide (((unhide R1).grown' (grown_setc (w := w5) (g := g) (k := k * 2) (x := .int .i64 p.1)) (fun q hq e => by cases e; have := (unhide L1 _ hq).2; omega)).grown' (grown_setc (g := g) (k := k * 2 + 1) (x := .int .i64 p.2)) (fun q hq e => by cases e; have := (unhide L1 _ hq).2; omega))
      have BW7 := hide (but_rowP (G := g) (k := k) (x := .int .i64 p.1) (y := .int .i64 p.2) |>.below (unhide BW6) (by omega) (by omega))
      have HLs : Hid ((H.set k p).length = H.length) := hide (by simp)
      have A1 := hide (unhide R1P).ar
      have A2 := hide (unhide RP).ar
      generalize hN : H.length = N at *
      go_upto_region 6 with fail
      clear o0 o1 of R1 R2 BW6 RP R1P
      generalize (w5.setCell ⟨g, k * 2, none⟩ (.int .i64 p.1)).setCell ⟨g, k * 2 + 1, none⟩ (.int .i64 p.2) = w6 at *
      obtain ⟨a3, c3, e3, ar1⟩ := unhide A1
      cases e3
      obtain ⟨a4, c4, e4, ar2⟩ := unhide A2
      rw [unhide HLs] at e4 ar2
      cases e4
      have A1 := hide ar1
      have A2 := hide ar2
      clear ar1 ar2
      go_wp2_with fail
      go_ret2
      exact ⟨_, _, _, l, _, _, _, H.set k p, rfl, unhide A1, unhide A2, by omega, by omega, unhide BW7⟩
end Go.Proofs.Ytgoiodhofbkkdaa
namespace Go.Proofs.Ytgoiodhofbkkdaa
open Go.RowKit
set_option linter.unusedVariables false
set_option maxRecDepth 100000
set_option linter.unusedSimpArgs false

theorem RtP.cell {B G n c : Nat} {w : World} {l : List (Int × Int)} (h : RtP B w (some ⟨G, 0, none⟩) n c l) {i : Nat} (hi : i < n) : w.cell? ⟨G, i * 2, none⟩ = some (.int .i64 (l.getD i (0, 0)).1) ∧ w.cell? ⟨G, i * 2 + 1, none⟩ = some (.int .i64 (l.getD i (0, 0)).2) := by
  rcases h.own with h0 | ⟨G', e, hB, ho⟩
  · omega
  · cases e
    have hl := h.len
    rcases ho.arg.sl with e | ⟨b, off, e, _, hc⟩
    · rw [e] at hl; simp at hl; omega
    · cases e
      have := hc i (by omega)
      rw [getD_gt (by omega)]
      simpa using this
theorem orV_good {a b c : Int × Int} (h : [a, b, c].all gPt = true) : orV a b c = sgZ (crs a b c) := by unfold orV; rw [h]; rfl
theorem sg_nn {k : Int} (h : 0 ≤ k) : 0 ≤ sgZ k := by unfold sgZ; split <;> (try split) <;> omega
theorem one_pt {l : List (Int × Int)} {a : Int × Int} (h : ∀ x ∈ l, x = a) : wO l l.length = wO [a] 1 := by
  have e : wO [a] 1 = wO [a] [a].length := rfl
  rw [e]
  have sq : ∀ x ∈ l, ∀ y ∈ l, sqP x y = 0 := fun x hx y hy => by rw [h x hx, h y hy, sqP_self]
  apply Int.le_antisymm
  · rw [wO_mem]
    have w := (wO_mem [a] _).1 (Int.le_refl (wO [a] [a].length))
    exact ⟨w.1, fun x hx y hy => by rw [sq x hx y hy]; exact w.1⟩
  · rw [wO_mem]
    have w := (wO_mem l _).1 (Int.le_refl (wO l l.length))
    refine ⟨w.1, fun x hx y hy => ?_⟩
    rw [List.mem_singleton.1 hx, List.mem_singleton.1 hy, sqP_self]
    exact w.1
/-- A hull of a cloud. -/
structure HuF (l H : List (Int × Int)) : Prop where
  pos : 1 ≤ H.length
  len : H.length ≤ l.length
  sub : ∀ x ∈ H, x ∈ l
  own : hulV H = H
  fst : H.getD 0 (0, 0) = (sortP l).getD 0 (0, 0)
  left : ∀ i, i < H.length → ∀ x ∈ l, 0 ≤ crs (H.getD i (0, 0)) (nxt H i) x
  wide : wO l l.length = wO H H.length
theorem hull_f {l : List (Int × Int)} (h : l ≠ []) : HuF l (hulV l) := by
  have hh := hul_head h
  by_cases h1 : (sortP l).length = 1
  · obtain ⟨a, ha⟩ : ∃ a, sortP l = [a] := by
      match hs : sortP l, h1 with
      | [a], _ => exact ⟨a, rfl⟩
    have e : hulV l = [a] := by unfold hulV; rw [ha]; rfl
    have all : ∀ x ∈ l, x = a := fun x hx => by have := sortP_mem.2 hx; rw [ha] at this; exact List.mem_singleton.1 this
    have am : a ∈ l := sortP_mem.1 (by rw [ha]; simp)
    rw [e]
    refine ⟨Nat.le_refl _, List.length_pos_iff.2 h, fun x hx => by rw [List.mem_singleton.1 hx]; exact am, ?_, by rw [ha], ?_, one_pt all⟩
    · rfl
    · intro i hi x hx
      have : i = 0 := by simp at hi; exact hi
      subst this
      rw [all x hx]
      have e1 : nxt [a] 0 = a := by simp [nxt]
      rw [e1, show [a].getD 0 (0, 0) = a from rfl, crs_aa]; exact Int.le_refl _
  · have hs := sort_ne h
    have h2 : 2 ≤ (sortP l).length := by have := List.length_pos_iff.2 hs; omega
    obtain ⟨a, b, sd⟩ := two_of (sortP_rise l) h2
    have e : hulV l = (chainP (sortP l)).dropLast ++ (chainP (sortP l).reverse).dropLast := by rw [hul_pts hs, if_neg h1]
    have hl := hull_len sd
    have sl := sort_len l
    refine ⟨List.length_pos_iff.2 hh.2, ?_, ?_, ?_, hh.1, ?_, ?_⟩
    · rw [e]; omega
    · intro x hx; rw [e] at hx; exact sortP_mem.1 (hul_sub sd x hx)
    · rw [e]; exact hull_hull sd
    · intro i hi x hx; rw [e] at hi ⊢; exact hull_left2 sd i hi x (sortP_mem.2 hx)
    · rw [e]; exact wide_same sd (fun x => sortP_mem.symm)
theorem clo_sub {l H : List (Int × Int)} (h : cloB l = true) (f : HuF l H) : cloB H = true := by
  have cp := clo_parts h
  unfold cloB inR
  rw [Bool.and_eq_true, Bool.and_eq_true, decide_eq_true_eq, decide_eq_true_eq, List.all_eq_true]
  have := f.pos
  have := f.len
  have := cp.1
  exact ⟨⟨by omega, by omega⟩, fun x hx => cp.2 x (f.sub x hx)⟩
theorem clo_fit {l : List (Int × Int)} (h : cloB l = true) : fitB l = true := by
  rw [fit_clo, Bool.and_eq_true] at h
  exact h.2
theorem nxt_in {H : List (Int × Int)} (h : 1 ≤ H.length) (i : Nat) : nxt H i ∈ H := nxt_mem (by omega) i
/-- What the law asks of a cloud that is told true. -/
theorem hull_facts (l : List (Int × Int)) : cloB l = true → (1 ≤ (huV l).length ∧ (huV l).length ≤ 16 ∧ 1 ≤ l.length) ∧ cloB (huV l) = true ∧ huV (huV l) = huV l ∧ ihB l (huV l) = true ∧ ihV l (huV l) = true ∧ ((huV l).getD 0 (0, 0) = (srV l).getD 0 (0, 0) ∧ 1 ≤ (srV l).length) ∧
    (∀ i, i < (huV l).length → ∀ x ∈ l, [(huV l).getD i (0, 0), nxt (huV l) i, x].all gPt = true ∧ (2 < (huV l).length → 0 ≤ orV ((huV l).getD i (0, 0)) (nxt (huV l) i) x) ∧ ((huV l).length = 2 → orV ((huV l).getD i (0, 0)) (nxt (huV l) i) x = 0)) ∧ wdV l = wdV (huV l) := by
  intro h
  have cp := clo_parts h
  have hne : l ≠ [] := fun e => by have := cp.1; rw [e] at this; simp at this
  have eH : huV l = hulV l := by unfold huV; rw [if_pos h]
  have eS : srV l = sortP l := by unfold srV; rw [if_pos (clo_fit h)]
  have f := hull_f hne
  have cH := clo_sub h f
  rw [eH, eS]
  have good : ∀ x ∈ l, gPt x = true := cp.2
  have goodH : ∀ x ∈ hulV l, gPt x = true := fun x hx => good x (f.sub x hx)
  have ib : ihB l (hulV l) = true := by unfold ihB; rw [h, Bool.true_and, List.all_eq_true]; exact goodH
  refine ⟨⟨f.pos, by have := f.len; have := cp.1; omega, cp.1.1⟩, cH, by unfold huV; rw [if_pos cH]; exact f.own, ib, by unfold ihV; rw [if_pos ib]; simp, ⟨f.fst, by have := List.length_pos_iff.2 (sort_ne hne); omega⟩, ?_, ?_⟩
  · intro i hi x hx
    have g1 := goodH _ (mem_at hi)
    have g2 := goodH _ (nxt_in f.pos i)
    have g3 := good x hx
    have ga : [(hulV l).getD i (0, 0), nxt (hulV l) i, x].all gPt = true := by simp only [List.all_cons, List.all_nil, g1, g2, g3]; rfl
    refine ⟨ga, fun _ => by rw [orV_good ga]; exact sg_nn (f.left i hi x hx), fun e2 => ?_⟩
    rw [orV_good ga]
    have l1 := f.left i hi x hx
    have l2 := f.left ((i + 1) % 2) (by rw [e2]; omega) x hx
    have e3 : nxt (hulV l) ((i + 1) % 2) = (hulV l).getD i (0, 0) := by
      unfold nxt
      rw [e2, show ((i + 1) % 2 + 1) % 2 = i by omega]
    have e4 : (hulV l).getD ((i + 1) % 2) (0, 0) = nxt (hulV l) i := by unfold nxt; rw [e2]
    rw [e3, e4] at l2
    have : crs (nxt (hulV l) i) ((hulV l).getD i (0, 0)) x = - crs ((hulV l).getD i (0, 0)) (nxt (hulV l) i) x := by unfold crs; grind
    have z : crs ((hulV l).getD i (0, 0)) (nxt (hulV l) i) x = 0 := by omega
    rw [z]; rfl
  · unfold wdV
    rw [if_pos h, if_pos cH]
    exact f.wide
end Go.Proofs.Ytgoiodhofbkkdaa

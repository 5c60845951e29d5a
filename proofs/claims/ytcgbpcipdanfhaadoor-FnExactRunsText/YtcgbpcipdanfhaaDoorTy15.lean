/- Texts of runs, of both sides; RunsText by value. No condition beyond those typed. Written by mkrt15.py. -/
import Derived.Test.YtcgbpcipdanfhaaDoorTx15
namespace Go.Proofs.YtcgbpcipdanfhaaDoor
open Go.RowKit
set_option linter.unusedVariables false
set_option maxRecDepth 100000
set_option linter.unusedSimpArgs false

theorem infoSt : (Tryd.prog.info? 9).map (fun i => (i.zero, i.size, i.bytes)) = some (some (.string ⟨#[]⟩), 1, 16) := by kernel_rfl
set_option maxHeartbeats 8000000 in
theorem runsTextI (a : Option Addr) (n c : Nat) (l : List (Int × Int)) (w : World) (h : SlP w a l) (hn : l.length = n) (hg : gRuns l = true) (ht : Tab15 w) :
    Calls Tryd.prog 48 #[.slice a n c] w fun e w' => e = .returned (.string (st (rtx l n))) ∧ Below w.heap.size w w' := by
  obtain ⟨i0, hi0, hz0, hz1, hz2⟩ := info_parts infoSt
  have nl : n ≤ 100 := by rw [← hn]; exact gR_len hg
  have HS := hide h
  have HN := hide hn
  have HG := hide hg
  have HT := hide ht
  clear h hn hg ht
  go_enter Tryd.func48, Tryd.ntmps48
  go_wp2_with (at_make; refine wpList_make_full _ rfl _ _ 94 rfl w.heap.size 9 i0 (.string ⟨#[]⟩) 1 Tryd.underlying94 hi0 hz0 hz1 .i64 .i64 _ _ n rfl rfl rfl rfl ?c1 ?c2 ?c3 ?_)
  case c1 => rw [hz2]; omega
  case c2 => unfold maxLen; omega
  case c3 => exact Nat.le_refl _
  intro w0 hown hgrow
  have P0 : Hid (RwS w.heap.size w0 (.slice (some ⟨w.heap.size, 0, none⟩) n n) n (pl15 l n 0)) := hide ⟨by
    have e : pl15 l n 0 = (madeCells #[Value.string ⟨#[]⟩] n).toList := by simp only [madeCells, pl15]; apply List.ext_getElem <;> simp [Nat.mod_one]
    rw [e]
    exact hown⟩
  have B0 : Hid (Below w.heap.size w w0) := hide ((Below.refl _ _).grown hgrow (Nat.le_refl _) (fun k e => by cases e))
  have gs : w.heap.size < w0.heap.size := by
    rcases (unhide P0).row.2 with ⟨e, _⟩ | ⟨g', cap, cur, hv, h1, hg, _⟩
    · simp at e
    · simp only [Value.slice.injEq, Option.some.injEq, Addr.mk.injEq, and_true, true_and] at hv
      have := (Array.getElem?_eq_some_iff.1 hg).1
      omega
  clear hown hgrow
  generalize hgq : w.heap.size = g at *
  go_wp2
  go_loopw [11] (fun iv wr => ∃ (i : Nat), i ≤ n ∧ iv = .int .i64 i ∧ Hid (RwS g wr (.slice (some ⟨g, 0, none⟩) n n) n (pl15 l n i)) ∧ g < wr.heap.size ∧ Hid (Below g w wr)) (fun iv _ => n - (intOf iv).toNat)
  case atStart => exact ⟨0, Nat.zero_le _, rfl, P0, gs, B0⟩
  case round =>
    clear B0 P0 gs
    obtain ⟨i, hi, rfl, R, gs, HB⟩ := hrel
    by_cases hlt : i < n
    · have hlt' : (i : Int) < (n : Int) := by omega
      have hil : i < l.length := by rw [unhide HN]; exact hlt
      rcases (unhide HS) with e | ⟨b, off, rfl, hb, hc⟩
      · exact absurd (unhide HN) (by rw [e]; simp; omega)
      have e0 := hc i hil
      have f0 := gR_nums (unhide HG) hil
      obtain ⟨V, hV⟩ : ∃ V : Nat, (V : Int) = l[i].1 := ⟨l[i].1.toNat, by omega⟩
      obtain ⟨M, hM⟩ : ∃ M : Nat, (M : Int) = l[i].2 := ⟨l[i].2.toNat, by omega⟩
      rw [← hV, ← hM] at f0
      have E0 : wr.cell? ⟨b, off + i * 2, none⟩ = some (.int .i64 (V : Int)) := by rw [hV]; exact ((unhide HB).cell (p := ⟨b, off + i * 2, none⟩) (by rw [← hgq]; exact hb)).trans (e0.1)
      have E1 : wr.cell? ⟨b, off + i * 2 + 1, none⟩ = some (.int .i64 (M : Int)) := by rw [hM]; exact ((unhide HB).cell (p := ⟨b, off + i * 2 + 1, none⟩) (by rw [← hgq]; exact hb)).trans (e0.2)
      have BA : Below wr.heap.size wr (wr.alloc (.cells #[.int .i64 (V : Int), .int .i64 (M : Int)] 66)) := (Below.refl _ _).alloc (Nat.le_refl _) _
      have K0 : (wr.alloc (.cells #[.int .i64 (V : Int), .int .i64 (M : Int)] 66)).cell? ⟨wr.heap.size, 0, none⟩ = some (.int .i64 (V : Int)) := by simp [go_sem]
      have K1x : (wr.alloc (.cells #[.int .i64 (V : Int), .int .i64 (M : Int)] 66)).cell? ⟨wr.heap.size, 1, none⟩ = some (.int .i64 (M : Int)) := by simp [go_sem]
      have HB1 := hide ((unhide HB).trans (BA.mono (Nat.le_of_lt gs)))
      obtain ⟨A, hA⟩ : ∃ A, A = Lib.decDigits M := ⟨_, rfl⟩
      obtain ⟨B, hB⟩ : ∃ B, B = Lib.decDigits V := ⟨_, rfl⟩
      have la : A.length ≤ 3 := by rw [hA]; exact dd_len 2 M (by omega)
      have lb : B.length ≤ 3 := by rw [hB]; exact dd_len 2 V (by omega)
      obtain ⟨K1, c1⟩ : ∃ K, ({ data := #[120] } : ByteArray) = K ∧ K = st [120] := ⟨_, rfl, rfl⟩
      obtain ⟨T1, t1⟩ : ∃ T, T = A ++ [120] := ⟨_, rfl⟩
      obtain ⟨T2, t2⟩ : ∃ T, T = T1 ++ B := ⟨_, rfl⟩
      have l1 : T1.length ≤ 4 := by rw [t1]; simp; omega
      have l2 : T2.length ≤ 7 := by rw [t2]; simp; omega
      have A1 : st A ++ K1 = st T1 := by rw [c1.2, st_add, t1]
      have A2 : st T1 ++ st B = st T2 := by rw [st_add, t2]
      have z1 : (st A).size + K1.size ≤ 9223372036854775807 := by rw [c1.2, st_size, st_size]; simp; omega
      have z2 : (st T1).size + (st B).size ≤ 9223372036854775807 := by rw [st_size, st_size]; omega
      have y1 : ¬ (9223372036854775807 < (st A).size + K1.size) := by omega
      have y2 : ¬ (9223372036854775807 < (st T1).size + (st B).size) := by omega
      have ET : Hid (rt1 l[i] = T2) := hide (by unfold rt1; rw [← hV, ← hM, Int.toNat_natCast, Int.toNat_natCast, t2, t1, hA, hB])
      have D1 : Hid (∀ w, Tab15 w → Calls Tryd.prog 73 #[.int .i64 (M : Int)] w fun e w' => e = .returned (.string (st A)) ∧ Below w.heap.size w w') := hide (fun w t => by rw [hA]; exact itoaI M w (by omega) t)
      have D2 : Hid (∀ w, Tab15 w → Calls Tryd.prog 73 #[.int .i64 (V : Int)] w fun e w' => e = .returned (.string (st B)) ∧ Below w.heap.size w w') := hide (fun w t => by rw [hB]; exact itoaI V w (by omega) t)
      replace R := hide ((unhide R).later BA)
      have SET : Hid (∀ w', RwS g w' (.slice (some ⟨g, 0, none⟩) n n) n (pl15 l n i) → RwS g (w'.setCell ⟨g, i, none⟩ (.string (st T2))) (.slice (some ⟨g, 0, none⟩) n n) n (pl15 l n (i + 1))) := hide (fun w' k => by have := k.put i (st T2); rw [← unhide ET, pl_set (unhide HN) hlt] at this; rw [← unhide ET]; exact this)
      have OLD : Hid (∀ w', RwS g w' (.slice (some ⟨g, 0, none⟩) n n) n (pl15 l n i) → (∃ u, w'.cell? ⟨g, i, none⟩ = some u) ∧ w'.frozen? ⟨g, i, none⟩ = false) := hide (fun w' k => ⟨by
        rw [k.row.cellAt _ (by omega), List.getElem?_eq_getElem (by rw [pl_len (unhide HN) hi]; omega)]
        exact ⟨_, rfl⟩, k.row.frozenAt _⟩)
      have gs6 : g < (wr.alloc (.cells #[.int .i64 (V : Int), .int .i64 (M : Int)] 66)).heap.size := by simp; omega
      replace c1 := c1.1
      replace hA := hide hA
      replace hB := hide hB
      clear e0 f0 hV hM hc BA HB t1 t2 l1 l2 la lb
      go_upto_region 5 with fail
      generalize (wr.alloc (.cells #[.int .i64 (V : Int), .int .i64 (M : Int)] 66)) = w6 at *
      have gPX : g < wr.heap.size := gs
      generalize wr.heap.size = PX at *
      refine wp_region_held_drew (S := fun w' => w'.cell? ⟨PX, 0, none⟩ = some (.int .i64 (V : Int)) ∧ w'.cell? ⟨PX, 1, none⟩ = some (.int .i64 (M : Int))) (by kernel_rfl) ⟨K0, K1x⟩ (fun hHeld => ?_)
      simp only [List.size_toArray, List.length_cons, List.length_nil, Nat.reduceAdd, Array.replicate_succ, Array.replicate_zero, List.push_toArray, List.nil_append, List.cons_append]
      refine wpAnyH_take (i := 0) (v := .slice (some ⟨g, 0, none⟩) n n) rfl (by kernel_rfl) (by kernel_rfl) (by kernel_rfl) (fun _ _ _ h => h) (Or.inl ⟨by rfl, by intro w hSw; (try dsimp only at hSw); go_simp⟩) hHeld ?_
      simp only [Act.put, List.setIfInBounds_toArray, List.set_cons_zero, List.set_cons_succ]
      refine wpAnyH_take (i := 1) (v := .int .i64 (i : Int)) rfl (by kernel_rfl) (by kernel_rfl) (by kernel_rfl) (fun _ _ _ h => h) (Or.inl ⟨by rfl, by intro w hSw; (try dsimp only at hSw); go_simp⟩) hHeld ?_
      simp only [Act.put, List.setIfInBounds_toArray, List.set_cons_zero, List.set_cons_succ]
      refine wpAnyH_take (i := 2) (v := .pointer (some ⟨PX, 1, none⟩)) rfl (by kernel_rfl) (by kernel_rfl) (by kernel_rfl) (fun _ _ _ h => h) (Or.inl ⟨by rfl, by intro w hSw; (try dsimp only at hSw); go_simp⟩) hHeld ?_
      simp only [Act.put, List.setIfInBounds_toArray, List.set_cons_zero, List.set_cons_succ]
      refine wpAnyH_take (i := 3) (v := .int .i64 (M : Int)) rfl (by kernel_rfl) (by kernel_rfl) (by kernel_rfl) (fun _ _ _ h => h) (Or.inl ⟨by rfl, by intro w hSw; (try dsimp only at hSw); go_simp⟩) hHeld ?_
      simp only [Act.put, List.setIfInBounds_toArray, List.set_cons_zero, List.set_cons_succ]
      refine wpAnyH_take (i := 6) (v := .pointer (some ⟨PX, 0, none⟩)) rfl (by kernel_rfl) (by kernel_rfl) (by kernel_rfl) (fun _ _ _ h => h) (Or.inl ⟨by rfl, by intro w hSw; (try dsimp only at hSw); go_simp⟩) hHeld ?_
      simp only [Act.put, List.setIfInBounds_toArray, List.set_cons_zero, List.set_cons_succ]
      refine wpAnyH_take (i := 7) (v := .int .i64 (V : Int)) rfl (by kernel_rfl) (by kernel_rfl) (by kernel_rfl) (fun _ _ _ h => h) (Or.inl ⟨by rfl, by intro w hSw; (try dsimp only at hSw); go_simp⟩) hHeld ?_
      simp only [Act.put, List.setIfInBounds_toArray, List.set_cons_zero, List.set_cons_succ]
      refine wpAnyH_ready (rs := [4]) (by kernel_rfl) (by simp) (AllReadyH.cons rfl (fun K hK => ?_) AllReadyH.nil)
      go_simp
      refine (unhide D1 _ ((unhide HT).later (by rw [hgq]; exact (unhide HB1).drew))).mono ?_
      rintro e w7 ⟨rfl, hb1⟩
      have hbx := below_of_drew hb1
      replace K0 := cell_later hbx K0
      replace K1x := cell_later hbx K1x
      have gsx := gs6
      replace gs6 := Nat.lt_of_lt_of_le gs6 hbx.size
      replace R := hide ((unhide R).later hbx)
      replace HB1 := hide ((unhide HB1).trans (hbx.mono (Nat.le_of_lt gsx)))
      refine hK.out _ _ ⟨K0, K1x⟩ (fun hHeld2 => ?_)
      clear hK K hb1 hbx hHeld
      have hHeld := hHeld2
      clear hHeld2
      simp only [Act.put, List.setIfInBounds_toArray, List.set_cons_zero, List.set_cons_succ]
      refine wpAnyH_take (i := 5) (v := .string (st T1)) rfl (by kernel_rfl) (by kernel_rfl) (by kernel_rfl) (fun _ _ _ h => h) (Or.inl ⟨by rfl, by intro w hSw; (try dsimp only at hSw); go_simp⟩) hHeld ?_
      simp only [Act.put, List.setIfInBounds_toArray, List.set_cons_zero, List.set_cons_succ]
      refine wpAnyH_ready (rs := [8]) (by kernel_rfl) (by simp) (AllReadyH.cons rfl (fun K hK => ?_) AllReadyH.nil)
      go_simp
      refine (unhide D2 _ ((unhide HT).later (by rw [hgq]; exact unhide HB1))).mono ?_
      rintro e w8 ⟨rfl, hb1⟩
      have hbx := hb1
      replace K0 := cell_later hbx K0
      replace K1x := cell_later hbx K1x
      have gsx := gs6
      replace gs6 := Nat.lt_of_lt_of_le gs6 hbx.size
      replace R := hide ((unhide R).later hbx)
      replace HB1 := hide ((unhide HB1).trans (hbx.mono (Nat.le_of_lt gsx)))
      refine hK.out _ _ ⟨K0, K1x⟩ (fun hHeld2 => ?_)
      clear hK K hb1 hbx hHeld
      have hHeld := hHeld2
      clear hHeld2
      simp only [Act.put, List.setIfInBounds_toArray, List.set_cons_zero, List.set_cons_succ]
      refine wpAnyH_take (i := 9) (v := .string (st T2)) rfl (by kernel_rfl) (by kernel_rfl) (by kernel_rfl) (fun _ _ _ h => h) (Or.inl ⟨by rfl, by intro w hSw; (try dsimp only at hSw); go_simp⟩) hHeld ?_
      simp only [Act.put, List.setIfInBounds_toArray, List.set_cons_zero, List.set_cons_succ]
      refine wpAnyH_take (i := 10) (v := .pointer (some ⟨g, i, none⟩)) rfl (by kernel_rfl) (by kernel_rfl) (by kernel_rfl) (fun _ _ _ h => h) (Or.inl ⟨by rfl, by intro w hSw; (try dsimp only at hSw); go_simp⟩) hHeld ?_
      simp only [Act.put, List.setIfInBounds_toArray, List.set_cons_zero, List.set_cons_succ]
      obtain ⟨⟨u9, OC⟩, FR⟩ := unhide OLD _ (unhide R)
      have gs10 : g < (w8.setCell ⟨g, i, none⟩ (.string (st T2))).heap.size := by simpa using gs6
      have RN := hide (unhide SET _ (unhide R))
      have HB9 := hide (set_bel15 (k := i) (u := .string (st T2)) (unhide HB1) (Nat.le_refl g) gs6)
      have KS : (w8.setCell ⟨g, i, none⟩ (.string (st T2))).cell? ⟨PX, 0, none⟩ = some (.int .i64 (V : Int)) ∧ (w8.setCell ⟨g, i, none⟩ (.string (st T2))).cell? ⟨PX, 1, none⟩ = some (.int .i64 (M : Int)) := ⟨((But.refl g (g + 1) w8).set (p := ⟨g, i, none⟩) (Nat.le_refl g) (Nat.lt_succ_self g) _).cell K0 (.inr (by show g + 1 ≤ PX; omega)), ((But.refl g (g + 1) w8).set (p := ⟨g, i, none⟩) (Nat.le_refl g) (Nat.lt_succ_self g) _).cell K1x (.inr (by show g + 1 ≤ PX; omega))⟩
      refine wpAnyH_ready (rs := [11]) (by kernel_rfl) (by simp) (AllReadyH.cons rfl (fun K hK => ?_) AllReadyH.nil)
      go_simp
      refine hK.out _ _ KS (fun hHeld2 => ?_)
      clear hK K hHeld
      have hHeld := hHeld2
      clear hHeld2
      simp only [Act.put, List.setIfInBounds_toArray, List.set_cons_zero, List.set_cons_succ]
      refine wpAnyH_done (by kernel_rfl) ?_ _
      clear hHeld
      go_wp2
      go_roundw
      case rel => exact ⟨i + 1, by omega, by go_num, RN, gs10, HB9⟩
      case measure => simp [intOf]; omega
    · obtain rfl : i = n := by omega
      by_cases h0 : i = 0
      · subst h0
        have CJ := Tryd.strings_Join_none (some ⟨g, 0, none⟩) 0 { data := #[44] } wr
        go_wp2_with fail
        refine CJ.mono ?_
        rintro e w9 ⟨rfl, rfl⟩
        go_wp2_with fail
        go_ret
        exact ⟨rfl, by rw [hgq]; exact unhide HB⟩
      · have hr := (unhide R).row
        have hl := unhide HN
        have EJ : Lib.join ((l.map (fun p => st (rt1 p))).map (·.data.toList)) [44] = rtx l i := by
          rw [List.map_map, show ((fun x : ByteArray => x.data.toList) ∘ fun p => st (rt1 p)) = rt1 from funext (fun p => st_data _), ← rtx_join l i (by omega), ← hl, List.take_length]
        have CJ := Tryd.strings_Join g 0 i (l.map (fun p => st (rt1 p))) { data := #[44] } wr (fun j x hx => by
          have hj : j < l.length := by have := (List.getElem?_eq_some_iff.1 hx).1; simpa using this
          rw [Nat.zero_add, hr.cellAt _ (by omega)]
          rw [List.getElem?_map, List.getElem?_eq_getElem hj] at hx
          simp at hx
          subst hx
          unfold pl15
          rw [← hl, List.take_length]
          simp [hj]) gs (by simp; omega) (by simp; omega) (by
          show (Lib.join ((l.map (fun p => st (rt1 p))).map (·.data.toList)) [44]).length ≤ 140737488355328
          rw [EJ]; have := rtx_len (unhide HG) i (by omega); omega)
        rw [show Lib.join ((l.map (fun p => st (rt1 p))).map (·.data.toList)) ({ data := #[44] } : ByteArray).data.toList = rtx l i from EJ, show (l.map (fun p => st (rt1 p))).length = i by rw [List.length_map, hl]] at CJ
        clear hr EJ R hl
        go_wp2_with fail
        refine CJ.mono ?_
        rintro e w9 ⟨rfl, hb⟩
        have HB9 := hide (below_on (by rw [hgq]; exact unhide HB) hb)
        clear hb CJ
        go_wp2_with fail
        go_ret
        exact ⟨rfl, unhide HB9⟩
set_option maxHeartbeats 8000000 in
theorem l15TextS (a : Option Addr) (n c : Nat) (l : List (Int × Int)) (w : World) (h : SlP w a l) (hn : l.length = n) (hg : gRuns l = true) :
    Calls Tryd.prog 50 #[.slice a n c] w fun e w' => e = .returned (.string (st (rtx l n))) ∧ Below w.heap.size w w' := by
  have nl : n ≤ 100 := by rw [← hn]; exact gR_len hg
  have HS := hide h
  have HN := hide hn
  have HG := hide hg
  clear h hn hg
  go_enter Tryd.func50, Tryd.ntmps50
  go_wp2
  go_loopw [3, 8] (fun sv iv wr => ∃ (i : Nat), i ≤ n ∧ iv = .int .i64 i ∧ sv = .string (st (rtx l i)) ∧ Hid (Below w.heap.size w wr)) (fun _ iv _ => n - (intOf iv).toNat)
  case atStart => exact ⟨0, Nat.zero_le _, rfl, rfl, hide (Below.refl _ _)⟩
  case round =>
    obtain ⟨i, hi, rfl, rfl, HB⟩ := hrel
    by_cases hlt : i < n
    · have hlt' : (i : Int) < (n : Int) := by omega
      have hil : i < l.length := by rw [unhide HN]; exact hlt
      rcases (unhide HS) with e | ⟨b, off, rfl, hb, hc⟩
      · exact absurd (unhide HN) (by rw [e]; simp; omega)
      have e0 := hc i hil
      have f0 := gR_nums (unhide HG) hil
      obtain ⟨V, hV⟩ : ∃ V : Nat, (V : Int) = l[i].1 := ⟨l[i].1.toNat, by omega⟩
      obtain ⟨M, hM⟩ : ∃ M : Nat, (M : Int) = l[i].2 := ⟨l[i].2.toNat, by omega⟩
      rw [← hV, ← hM] at f0
      have E0 : wr.cell? ⟨b, off + i * 2, none⟩ = some (.int .i64 (V : Int)) := by rw [hV]; exact ((unhide HB).cell (p := ⟨b, off + i * 2, none⟩) hb).trans (e0.1)
      have E1 : wr.cell? ⟨b, off + i * 2 + 1, none⟩ = some (.int .i64 (M : Int)) := by rw [hM]; exact ((unhide HB).cell (p := ⟨b, off + i * 2 + 1, none⟩) hb).trans (e0.2)
      have BA : Below wr.heap.size wr (wr.alloc (.cells #[.int .i64 (V : Int), .int .i64 (M : Int)] 66)) := (Below.refl _ _).alloc (Nat.le_refl _) _
      have K0 : (wr.alloc (.cells #[.int .i64 (V : Int), .int .i64 (M : Int)] 66)).cell? ⟨wr.heap.size, 0, none⟩ = some (.int .i64 (V : Int)) := by simp [go_sem]
      have K1x : (wr.alloc (.cells #[.int .i64 (V : Int), .int .i64 (M : Int)] 66)).cell? ⟨wr.heap.size, 1, none⟩ = some (.int .i64 (M : Int)) := by simp [go_sem]
      have HB1 := hide (below_on (unhide HB) BA)
      obtain ⟨A, hA⟩ : ∃ A, A = Lib.decDigits M := ⟨_, rfl⟩
      obtain ⟨B, hB⟩ : ∃ B, B = Lib.decDigits V := ⟨_, rfl⟩
      have la : A.length ≤ 3 := by rw [hA]; exact dd_len 2 M (by omega)
      have lb : B.length ≤ 3 := by rw [hB]; exact dd_len 2 V (by omega)
      obtain ⟨K1, c1⟩ : ∃ K, ({ data := #[120] } : ByteArray) = K ∧ K = st [120] := ⟨_, rfl, rfl⟩
      obtain ⟨T1, t1⟩ : ∃ T, T = A ++ [120] := ⟨_, rfl⟩
      obtain ⟨T2, t2⟩ : ∃ T, T = T1 ++ B := ⟨_, rfl⟩
      have l1 : T1.length ≤ 4 := by rw [t1]; simp; omega
      have l2 : T2.length ≤ 7 := by rw [t2]; simp; omega
      have A1 : st A ++ K1 = st T1 := by rw [c1.2, st_add, t1]
      have A2 : st T1 ++ st B = st T2 := by rw [st_add, t2]
      have z1 : (st A).size + K1.size ≤ 9223372036854775807 := by rw [c1.2, st_size, st_size]; simp; omega
      have z2 : (st T1).size + (st B).size ≤ 9223372036854775807 := by rw [st_size, st_size]; omega
      have y1 : ¬ (9223372036854775807 < (st A).size + K1.size) := by omega
      have y2 : ¬ (9223372036854775807 < (st T1).size + (st B).size) := by omega
      have ET : Hid (rt1 l[i] = T2) := hide (by unfold rt1; rw [← hV, ← hM, Int.toNat_natCast, Int.toNat_natCast, t2, t1, hA, hB])
      have D1 : Hid (∀ w : World, Calls Tryd.prog 75 #[.int .i64 (M : Int)] w fun e w' => e = .returned (.string (st A)) ∧ Below w.heap.size w w') := hide (fun w => by rw [hA]; exact numS 2 M (by omega) (by omega) w)
      have D2 : Hid (∀ w : World, Calls Tryd.prog 75 #[.int .i64 (V : Int)] w fun e w' => e = .returned (.string (st B)) ∧ Below w.heap.size w w') := hide (fun w => by rw [hB]; exact numS 2 V (by omega) (by omega) w)
      have LR := rtx_len (unhide HG) i (by omega)
      have e2 : l.getD i (0, 0) = l[i] := by simp [List.getD, hil]
      obtain ⟨L2, hL2⟩ : ∃ L, L = rtx l (i + 1) := ⟨_, rfl⟩
      have RX : L2 = (if i = 0 then [] else rtx l i ++ [44]) ++ T2 := by rw [hL2, ← unhide ET, ← e2]; rfl
      replace hL2 := hide hL2
      obtain ⟨L, hL⟩ : ∃ L, L = rtx l i := ⟨_, rfl⟩
      rw [← hL] at LR RX
      rw [← hL]
      replace c1 := c1.1
      replace hA := hide hA
      replace hB := hide hB
      clear e0 f0 hV hM hc BA HB t1 t2 l1 la lb e2
      by_cases h0 : i = 0
      · have dg : decide ((0 : Int) < (i : Int)) = false := decide_eq_false (by omega)
        have dg' : decide (0 < i) = false := decide_eq_false (by omega)
        rw [if_pos h0] at RX
        have LE : L = [] := by rw [hL, h0]; rfl
        have A3 : st L ++ st T2 = st L2 := by rw [st_add, RX, LE]
        have y3 : ¬ (9223372036854775807 < (st L).size + (st T2).size) := by rw [st_size, st_size]; omega
        replace h0 := hide h0
        clear hL RX LE LR l2
        go_upto_region 7 with fail
        generalize (wr.alloc (.cells #[.int .i64 (V : Int), .int .i64 (M : Int)] 66)) = w6 at *
        generalize wr.heap.size = PX at *
        refine wp_region_held_drew (S := fun w' => w'.cell? ⟨PX, 0, none⟩ = some (.int .i64 (V : Int)) ∧ w'.cell? ⟨PX, 1, none⟩ = some (.int .i64 (M : Int))) (by kernel_rfl) ⟨K0, K1x⟩ (fun hHeld => ?_)
        simp only [List.size_toArray, List.length_cons, List.length_nil, Nat.reduceAdd, Array.replicate_succ, Array.replicate_zero, List.push_toArray, List.nil_append, List.cons_append]
        refine wpAnyH_take (i := 0) (v := .string (st L)) rfl (by kernel_rfl) (by kernel_rfl) (by kernel_rfl) (fun _ _ _ h => h) (Or.inl ⟨by rfl, by intro w hSw; (try dsimp only at hSw); go_simp⟩) hHeld ?_
        simp only [Act.put, List.setIfInBounds_toArray, List.set_cons_zero, List.set_cons_succ]
        refine wpAnyH_take (i := 1) (v := .pointer (some ⟨PX, 1, none⟩)) rfl (by kernel_rfl) (by kernel_rfl) (by kernel_rfl) (fun _ _ _ h => h) (Or.inl ⟨by rfl, by intro w hSw; (try dsimp only at hSw); go_simp⟩) hHeld ?_
        simp only [Act.put, List.setIfInBounds_toArray, List.set_cons_zero, List.set_cons_succ]
        refine wpAnyH_take (i := 2) (v := .int .i64 (M : Int)) rfl (by kernel_rfl) (by kernel_rfl) (by kernel_rfl) (fun _ _ _ h => h) (Or.inl ⟨by rfl, by intro w hSw; (try dsimp only at hSw); go_simp⟩) hHeld ?_
        simp only [Act.put, List.setIfInBounds_toArray, List.set_cons_zero, List.set_cons_succ]
        refine wpAnyH_take (i := 5) (v := .pointer (some ⟨PX, 0, none⟩)) rfl (by kernel_rfl) (by kernel_rfl) (by kernel_rfl) (fun _ _ _ h => h) (Or.inl ⟨by rfl, by intro w hSw; (try dsimp only at hSw); go_simp⟩) hHeld ?_
        simp only [Act.put, List.setIfInBounds_toArray, List.set_cons_zero, List.set_cons_succ]
        refine wpAnyH_take (i := 6) (v := .int .i64 (V : Int)) rfl (by kernel_rfl) (by kernel_rfl) (by kernel_rfl) (fun _ _ _ h => h) (Or.inl ⟨by rfl, by intro w hSw; (try dsimp only at hSw); go_simp⟩) hHeld ?_
        simp only [Act.put, List.setIfInBounds_toArray, List.set_cons_zero, List.set_cons_succ]
        refine wpAnyH_ready (rs := [3]) (by kernel_rfl) (by simp) (AllReadyH.cons rfl (fun K hK => ?_) AllReadyH.nil)
        go_simp
        refine (unhide D1 _).mono ?_
        rintro e w7 ⟨rfl, hb1⟩
        have hbx := below_of_drew hb1
        replace K0 := cell_later hbx K0
        replace K1x := cell_later hbx K1x
        replace HB1 := hide (below_on (unhide HB1) hbx)
        refine hK.out _ _ ⟨K0, K1x⟩ (fun hHeld2 => ?_)
        clear hK K hb1 hbx hHeld
        have hHeld := hHeld2
        clear hHeld2
        simp only [Act.put, List.setIfInBounds_toArray, List.set_cons_zero, List.set_cons_succ]
        refine wpAnyH_take (i := 4) (v := .string (st T1)) rfl (by kernel_rfl) (by kernel_rfl) (by kernel_rfl) (fun _ _ _ h => h) (Or.inl ⟨by rfl, by intro w hSw; (try dsimp only at hSw); go_simp⟩) hHeld ?_
        simp only [Act.put, List.setIfInBounds_toArray, List.set_cons_zero, List.set_cons_succ]
        refine wpAnyH_ready (rs := [7]) (by kernel_rfl) (by simp) (AllReadyH.cons rfl (fun K hK => ?_) AllReadyH.nil)
        go_simp
        refine (unhide D2 _).mono ?_
        rintro e w8 ⟨rfl, hb1⟩
        have hbx := hb1
        replace K0 := cell_later hbx K0
        replace K1x := cell_later hbx K1x
        replace HB1 := hide (below_on (unhide HB1) hbx)
        refine hK.out _ _ ⟨K0, K1x⟩ (fun hHeld2 => ?_)
        clear hK K hb1 hbx hHeld
        have hHeld := hHeld2
        clear hHeld2
        simp only [Act.put, List.setIfInBounds_toArray, List.set_cons_zero, List.set_cons_succ]
        refine wpAnyH_take (i := 8) (v := .string (st T2)) rfl (by kernel_rfl) (by kernel_rfl) (by kernel_rfl) (fun _ _ _ h => h) (Or.inl ⟨by rfl, by intro w hSw; (try dsimp only at hSw); go_simp⟩) hHeld ?_
        simp only [Act.put, List.setIfInBounds_toArray, List.set_cons_zero, List.set_cons_succ]
        refine wpAnyH_take (i := 9) (v := .string (st L2)) rfl (by kernel_rfl) (by kernel_rfl) (by kernel_rfl) (fun _ _ _ h => h) (Or.inl ⟨by rfl, by intro w hSw; (try dsimp only at hSw); go_simp⟩) hHeld ?_
        simp only [Act.put, List.setIfInBounds_toArray, List.set_cons_zero, List.set_cons_succ]
        refine wpAnyH_take (i := 10) (v := .string (st L2)) rfl (by kernel_rfl) (by kernel_rfl) (by kernel_rfl) (fun _ _ _ h => h) (Or.inl ⟨by rfl, by intro w hSw; (try dsimp only at hSw); go_simp⟩) hHeld ?_
        simp only [Act.put, List.setIfInBounds_toArray, List.set_cons_zero, List.set_cons_succ]
        refine wpAnyH_done (by kernel_rfl) ?_ _
        clear hHeld
        go_wp2
        go_roundw
        case rel => exact ⟨i + 1, by omega, by go_num, by rw [unhide hL2], HB1⟩
        case measure => simp [intOf]; omega
      · have dg : decide ((0 : Int) < (i : Int)) = true := decide_eq_true (by omega)
        have dg' : decide (0 < i) = true := decide_eq_true (by omega)
        rw [if_neg h0] at RX
        obtain ⟨K2, c2⟩ : ∃ K, ({ data := #[44] } : ByteArray) = K ∧ K = st [44] := ⟨_, rfl, rfl⟩
        obtain ⟨L1, hL1⟩ : ∃ L', L' = L ++ [44] := ⟨_, rfl⟩
        have A4 : st L ++ K2 = st L1 := by rw [c2.2, st_add, hL1]
        have y4 : ¬ (9223372036854775807 < (st L).size + K2.size) := by rw [c2.2, st_size, st_size]; simp; omega
        have y4' : (st L).size + K2.size ≤ 9223372036854775807 := by omega
        have A3 : st L1 ++ st T2 = st L2 := by rw [st_add, RX, hL1]
        have y3 : ¬ (9223372036854775807 < (st L1).size + (st T2).size) := by rw [st_size, st_size, hL1]; simp; omega
        replace c2 := c2.1
        replace h0 := hide h0
        clear hL RX LR hL1 l2
        go_upto_region 7 with fail
        generalize (wr.alloc (.cells #[.int .i64 (V : Int), .int .i64 (M : Int)] 66)) = w6 at *
        generalize wr.heap.size = PX at *
        refine wp_region_held_drew (S := fun w' => w'.cell? ⟨PX, 0, none⟩ = some (.int .i64 (V : Int)) ∧ w'.cell? ⟨PX, 1, none⟩ = some (.int .i64 (M : Int))) (by kernel_rfl) ⟨K0, K1x⟩ (fun hHeld => ?_)
        simp only [List.size_toArray, List.length_cons, List.length_nil, Nat.reduceAdd, Array.replicate_succ, Array.replicate_zero, List.push_toArray, List.nil_append, List.cons_append]
        refine wpAnyH_take (i := 0) (v := .string (st L1)) rfl (by kernel_rfl) (by kernel_rfl) (by kernel_rfl) (fun _ _ _ h => h) (Or.inl ⟨by rfl, by intro w hSw; (try dsimp only at hSw); go_simp⟩) hHeld ?_
        simp only [Act.put, List.setIfInBounds_toArray, List.set_cons_zero, List.set_cons_succ]
        refine wpAnyH_take (i := 1) (v := .pointer (some ⟨PX, 1, none⟩)) rfl (by kernel_rfl) (by kernel_rfl) (by kernel_rfl) (fun _ _ _ h => h) (Or.inl ⟨by rfl, by intro w hSw; (try dsimp only at hSw); go_simp⟩) hHeld ?_
        simp only [Act.put, List.setIfInBounds_toArray, List.set_cons_zero, List.set_cons_succ]
        refine wpAnyH_take (i := 2) (v := .int .i64 (M : Int)) rfl (by kernel_rfl) (by kernel_rfl) (by kernel_rfl) (fun _ _ _ h => h) (Or.inl ⟨by rfl, by intro w hSw; (try dsimp only at hSw); go_simp⟩) hHeld ?_
        simp only [Act.put, List.setIfInBounds_toArray, List.set_cons_zero, List.set_cons_succ]
        refine wpAnyH_take (i := 5) (v := .pointer (some ⟨PX, 0, none⟩)) rfl (by kernel_rfl) (by kernel_rfl) (by kernel_rfl) (fun _ _ _ h => h) (Or.inl ⟨by rfl, by intro w hSw; (try dsimp only at hSw); go_simp⟩) hHeld ?_
        simp only [Act.put, List.setIfInBounds_toArray, List.set_cons_zero, List.set_cons_succ]
        refine wpAnyH_take (i := 6) (v := .int .i64 (V : Int)) rfl (by kernel_rfl) (by kernel_rfl) (by kernel_rfl) (fun _ _ _ h => h) (Or.inl ⟨by rfl, by intro w hSw; (try dsimp only at hSw); go_simp⟩) hHeld ?_
        simp only [Act.put, List.setIfInBounds_toArray, List.set_cons_zero, List.set_cons_succ]
        refine wpAnyH_ready (rs := [3]) (by kernel_rfl) (by simp) (AllReadyH.cons rfl (fun K hK => ?_) AllReadyH.nil)
        go_simp
        refine (unhide D1 _).mono ?_
        rintro e w7 ⟨rfl, hb1⟩
        have hbx := below_of_drew hb1
        replace K0 := cell_later hbx K0
        replace K1x := cell_later hbx K1x
        replace HB1 := hide (below_on (unhide HB1) hbx)
        refine hK.out _ _ ⟨K0, K1x⟩ (fun hHeld2 => ?_)
        clear hK K hb1 hbx hHeld
        have hHeld := hHeld2
        clear hHeld2
        simp only [Act.put, List.setIfInBounds_toArray, List.set_cons_zero, List.set_cons_succ]
        refine wpAnyH_take (i := 4) (v := .string (st T1)) rfl (by kernel_rfl) (by kernel_rfl) (by kernel_rfl) (fun _ _ _ h => h) (Or.inl ⟨by rfl, by intro w hSw; (try dsimp only at hSw); go_simp⟩) hHeld ?_
        simp only [Act.put, List.setIfInBounds_toArray, List.set_cons_zero, List.set_cons_succ]
        refine wpAnyH_ready (rs := [7]) (by kernel_rfl) (by simp) (AllReadyH.cons rfl (fun K hK => ?_) AllReadyH.nil)
        go_simp
        refine (unhide D2 _).mono ?_
        rintro e w8 ⟨rfl, hb1⟩
        have hbx := hb1
        replace K0 := cell_later hbx K0
        replace K1x := cell_later hbx K1x
        replace HB1 := hide (below_on (unhide HB1) hbx)
        refine hK.out _ _ ⟨K0, K1x⟩ (fun hHeld2 => ?_)
        clear hK K hb1 hbx hHeld
        have hHeld := hHeld2
        clear hHeld2
        simp only [Act.put, List.setIfInBounds_toArray, List.set_cons_zero, List.set_cons_succ]
        refine wpAnyH_take (i := 8) (v := .string (st T2)) rfl (by kernel_rfl) (by kernel_rfl) (by kernel_rfl) (fun _ _ _ h => h) (Or.inl ⟨by rfl, by intro w hSw; (try dsimp only at hSw); go_simp⟩) hHeld ?_
        simp only [Act.put, List.setIfInBounds_toArray, List.set_cons_zero, List.set_cons_succ]
        refine wpAnyH_take (i := 9) (v := .string (st L2)) rfl (by kernel_rfl) (by kernel_rfl) (by kernel_rfl) (fun _ _ _ h => h) (Or.inl ⟨by rfl, by intro w hSw; (try dsimp only at hSw); go_simp⟩) hHeld ?_
        simp only [Act.put, List.setIfInBounds_toArray, List.set_cons_zero, List.set_cons_succ]
        refine wpAnyH_take (i := 10) (v := .string (st L2)) rfl (by kernel_rfl) (by kernel_rfl) (by kernel_rfl) (fun _ _ _ h => h) (Or.inl ⟨by rfl, by intro w hSw; (try dsimp only at hSw); go_simp⟩) hHeld ?_
        simp only [Act.put, List.setIfInBounds_toArray, List.set_cons_zero, List.set_cons_succ]
        refine wpAnyH_done (by kernel_rfl) ?_ _
        clear hHeld
        go_wp2
        go_roundw
        case rel => exact ⟨i + 1, by omega, by go_num, by rw [unhide hL2], HB1⟩
        case measure => simp [intOf]; omega
    · obtain rfl : i = n := by omega
      go_wp2
      go_ret
      exact ⟨rfl, unhide HB⟩
/-- What RunsText tells. -/
def rtV (l : List (Int × Int)) : ByteArray := if gRuns l = true then st (rtx l l.length) else st []
set_option maxHeartbeats 2000000 in
theorem RunsTextS (a : Option Addr) (n c : Nat) (l : List (Int × Int)) (w : World) (h : ArP w a n c l) (h1 : n ≤ 1048576) :
    Calls Tryd.prog 19 #[.slice a n c] w fun e w' => e = .returned (.tuple #[.string (rtV l), .bool (gRuns l)]) ∧ Below w.heap.size w w' := by
  have HA := hide h.sl
  have C1 := hide (fun w (k : SlP w a l) => gRunS a n c l w k h.len (by unfold maxLen; omega))
  cases hg : gRuns l
  · have EV : rtV l = st [] := by unfold rtV; rw [hg]; rfl
    rw [EV]
    rw [hg] at C1
    clear hg EV h
    go_enter Tryd.func19, Tryd.ntmps19
    go_wp2_with fail
    refine (unhide C1 _ (unhide HA)).mono ?_
    rintro e w1 ⟨rfl, hb⟩
    go_wp2_with fail
    go_ret2
    exact ⟨rfl, hb⟩
  · have EV : rtV l = st (rtx l n) := by unfold rtV; rw [hg, h.len]; rfl
    have C2 := hide (fun w (k : SlP w a l) => l15TextS a n c l w k h.len hg)
    rw [EV]
    rw [hg] at C1
    clear hg EV h
    generalize rtx l n = X at *
    go_enter Tryd.func19, Tryd.ntmps19
    go_wp2_with fail
    refine (unhide C1 _ (unhide HA)).mono ?_
    rintro e w1 ⟨rfl, hb⟩
    replace HA := hide ((unhide HA).later hb)
    have HB := hide hb
    clear hb
    go_wp2_with fail
    refine (unhide C2 _ (unhide HA)).mono ?_
    rintro e w2 ⟨rfl, hb⟩
    replace HB := hide (below_on (unhide HB) hb)
    clear hb
    go_wp2_with fail
    go_ret2
    exact ⟨rfl, unhide HB⟩
set_option maxHeartbeats 2000000 in
theorem RunsTextI (a : Option Addr) (n c : Nat) (l : List (Int × Int)) (w : World) (h : ArP w a n c l) (h1 : n ≤ 1048576) (ht : Tab15 w) :
    Calls Tryd.prog 18 #[.slice a n c] w fun e w' => e = .returned (.tuple #[.string (rtV l), .bool (gRuns l)]) ∧ Below w.heap.size w w' := by
  have HA := hide h.sl
  have C1 := hide (fun w (k : SlP w a l) => gRunI a n c l w k h.len (by unfold maxLen; omega))
  cases hg : gRuns l
  · have EV : rtV l = st [] := by unfold rtV; rw [hg]; rfl
    rw [EV]
    rw [hg] at C1
    clear hg EV h
    go_enter Tryd.func18, Tryd.ntmps18
    go_wp2_with fail
    refine (unhide C1 _ (unhide HA)).mono ?_
    rintro e w1 ⟨rfl, hb⟩
    go_wp2_with fail
    go_ret2
    exact ⟨rfl, hb⟩
  · have EV : rtV l = st (rtx l n) := by unfold rtV; rw [hg, h.len]; rfl
    have C2 := hide (fun w (k : SlP w a l) (t : Tab15 w) => runsTextI a n c l w k h.len hg t)
    rw [EV]
    rw [hg] at C1
    clear hg EV h
    generalize rtx l n = X at *
    go_enter Tryd.func18, Tryd.ntmps18
    go_wp2_with fail
    refine (unhide C1 _ (unhide HA)).mono ?_
    rintro e w1 ⟨rfl, hb⟩
    replace HA := hide ((unhide HA).later hb)
    have HB := hide hb
    clear hb
    go_wp2_with fail
    refine (unhide C2 _ (unhide HA) (ht.later (unhide HB))).mono ?_
    rintro e w2 ⟨rfl, hb⟩
    replace HB := hide (below_on (unhide HB) hb)
    clear hb
    go_wp2_with fail
    go_ret2
    exact ⟨rfl, unhide HB⟩
end Go.Proofs.YtcgbpcipdanfhaaDoor

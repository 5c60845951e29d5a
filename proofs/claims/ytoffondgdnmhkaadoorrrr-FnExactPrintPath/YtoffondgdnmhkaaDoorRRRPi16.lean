/- pathText: ways as words with blanks between, by value. No condition beyond those typed. Written by mkpp16.py. -/
import Derived.Test.YtoffondgdnmhkaaDoorRRRPf16
namespace Go.Proofs.YtoffondgdnmhkaaDoorRRR
open Go.RowKit
set_option linter.unusedVariables false
set_option maxRecDepth 100000
set_option linter.unusedSimpArgs false

theorem infoSt16 : (Tryd.prog.info? 9).map (fun i => (i.zero, i.size, i.bytes)) = some (some (.string ⟨#[]⟩), 1, 16) := by kernel_rfl
theorem new_cell3X (w : World) (a b c : Value) : ∀ j u, [a, b, c][j]? = some u → (w.alloc (.cells #[a, b, c] 9)).cell? ((⟨w.heap.size, 0, none⟩ : Addr).add j) = some u := by
  intro j u h
  match j, h with
  | 0, h => simp at h; subst h; simp [Addr.add, go_sem]
  | 1, h => simp at h; subst h; simp [Addr.add, go_sem]
  | 2, h => simp at h; subst h; simp [Addr.add, go_sem]
  | j + 3, h => simp at h
theorem new_cell1X (w : World) (a : Value) : ∀ j u, [a][j]? = some u → (w.alloc (.cells #[a] 9)).cell? ((⟨w.heap.size, 0, none⟩ : Addr).add j) = some u := by
  intro j u h
  match j, h with
  | 0, h => simp at h; subst h; simp [Addr.add, go_sem]
  | j + 1, h => simp at h
theorem RwX.apart {B n : Nat} {w : World} {v : Value} {L : List Value} (h : RwX B w v n L) : some w.heap.size ≠ v.ownBlock := by
  rcases h.row.2 with ⟨rfl, _⟩ | ⟨g, c, cur, rfl, h1, hg, _⟩
  · simp [Value.ownBlock]
  · have := (Array.getElem?_eq_some_iff.1 hg).1
    intro k
    simp [Value.ownBlock] at k
    omega
set_option maxHeartbeats 16000000 in
theorem pathTextI (a : Option Addr) (n c : Nat) (rs : List RW) (w : World) (h : WSl w a rs) (hn : rs.length = n) (hg : gWs (dW rs) = true) (ht : Tab15 w) :
    Calls Tryd.prog 22 #[.slice a n c] w fun e w' => e = .returned (.string (st (txW (dW rs) n))) ∧ Below w.heap.size w w' := by
  obtain ⟨i0, hi0, hz0, hz1, hz2⟩ := info_parts infoSt16
  have G := gWs_at hg
  have n4 : n ≤ 4 := by rw [← hn]; exact G.1
  have n1 : Hid (1 ≤ n) := hide (by rw [← hn]; exact G.2.1)
  have GN := hide G.2.2
  have HS := hide h
  have HN := hide hn
  have HT := hide ht
  have I0 := hide (And.intro hi0 (And.intro hz0 (And.intro hz1 hz2)))
  have E0x := hide (emptyX w)
  have B0x : Hid (Below w.heap.size w (w.alloc (.cells #[] 9))) := hide ((Below.refl _ _).alloc (Nat.le_refl _) _)
  clear h hn hg G ht hi0 hz0 hz1 hz2
  go_enter Tryd.func22, Tryd.ntmps22
  go_wp2
  go_loopw [3, 12] (fun v iv wr => ∃ (i : Nat) (ws : List (List UInt8)) (v1 : Value), v1 = v ∧ i ≤ n ∧ iv = .int .i64 i ∧ Hid (ws = wdW (dW rs) i) ∧ ws.length ≤ 150 ∧ Hid (RwX w.heap.size wr v1 ws.length (svX ws)) ∧ Hid (Below w.heap.size w wr)) (fun _ iv _ => n - (intOf iv).toNat)
  case atStart => exact ⟨0, [], _, rfl, Nat.zero_le _, rfl, hide rfl, by simp, E0x, B0x⟩
  case round =>
    clear E0x B0x
    obtain ⟨i, ws, v1, rfl, hi, rfl, HW, LW, R, HB⟩ := hrel
    by_cases hlt : i < n
    · have hlt' : (i : Int) < (n : Int) := by omega
      rcases (unhide HS).at_ with e | ⟨b, off, rfl, hb, hc⟩
      · exact absurd (unhide HN) (by rw [e]; simp; omega)
      have hil : i < rs.length := by rw [unhide HN]; exact hlt
      have e0 := hc i hil
      have DI := hide (dW_at hil)
      obtain ⟨y, hy⟩ : ∃ y, y = rs[i] := ⟨_, rfl⟩
      rw [← hy] at e0 DI
      have MY : Hid (y ∈ rs) := hide (by rw [hy]; exact List.getElem_mem _)
      have E0 : wr.cell? ⟨b, off + i, none⟩ = some (.slice y.a y.n y.c) := ((unhide HB).cell (p := ⟨b, off + i, none⟩) hb).trans e0
      have NY := hide (unhide GN y (unhide MY))
      have RY := hide ((unhide HS).rd y (unhide MY))
      have ny : y.n ≤ 12 := by rw [← (unhide RY).2.1]; exact (unhide NY).1
      clear hy hc e0 hil
      have LW2 : Hid (ws.length ≤ 37 * i) := hide (by rw [unhide HW]; exact wdW_len (unhide GN) i (by rw [unhide HN]; omega))
      have EW : Hid (wdW (dW rs) (i + 1) = ws ++ wdP y.l y.n ++ [[90]]) := hide (by
        rw [show wdW (dW rs) (i + 1) = wdW (dW rs) i ++ wdP ((dW rs).getD i []) ((dW rs).getD i []).length ++ [[90]] from rfl, unhide DI, (unhide RY).2.1, ← unhide HW])
      obtain ⟨wx, hwx⟩ : ∃ x, x = wr := ⟨_, rfl⟩
      subst hwx
      clear HW
      go_wp2
      go_loopw [3, 6, 18] (fun v lv kv wr => ∃ (k : Nat) (us : List (List UInt8)) (v1 : Value), v1 = v ∧ k ≤ y.n ∧ kv = .int .i64 k ∧ lv = .string (st [ltr k]) ∧ Hid (us = ws ++ wdP y.l k) ∧ us.length ≤ 200 ∧ Hid (RwX w.heap.size wr v1 us.length (svX us)) ∧ Hid (Below w.heap.size w wr)) (fun _ _ kv _ => y.n - (intOf kv).toNat)
      case atStart => exact ⟨0, ws, _, rfl, Nat.zero_le _, rfl, rfl, hide (by simp [wdP]), by omega, R, HB⟩
      case round =>
        clear HB R E0 LW
        obtain ⟨k, us, v2, rfl, hk, rfl, rfl, HU, LU, R, HB⟩ := hrel
        obtain ⟨wi, hwi⟩ : ∃ x, x = wr := ⟨_, rfl⟩
        subst hwi
        by_cases klt : k < y.n
        · have klt' : (k : Int) < (y.n : Int) := by omega
          have r1 := (unhide RY).1
          have r2 := (unhide RY).2.1
          have hkl : k < y.l.length := by rw [r2]; exact klt
          have r0 := (unhide NY).2 k hkl
          have GK : y.l.getD k (0, 0) = y.l[k] := by simp [List.getD, hkl]
          obtain ⟨ya, hya⟩ : ∃ z, z = y.a := ⟨_, rfl⟩
          rw [← hya] at r1
          rcases r1 with e | ⟨b2, off2, e, hb2, hc2⟩
          · rw [e] at hkl; simp at hkl
          subst e
          have e2 := hc2 k hkl
          have e3 := And.intro (((unhide HB).cell (p := ⟨b2, off2 + k * 2, none⟩) hb2).trans e2.1) (((unhide HB).cell (p := ⟨b2, off2 + k * 2 + 1, none⟩) hb2).trans e2.2)
          obtain ⟨X, hX⟩ : ∃ X, X = y.l[k].1 := ⟨_, rfl⟩
          obtain ⟨Y, hY⟩ : ∃ Y, Y = y.l[k].2 := ⟨_, rfl⟩
          rw [← hX, ← hY] at r0
          have E0 : wi.cell? ⟨b2, off2 + k * 2, none⟩ = some (.int .i64 X) := by rw [hX]; exact e3.1
          have E1 : wi.cell? ⟨b2, off2 + k * 2 + 1, none⟩ = some (.int .i64 Y) := by rw [hY]; exact e3.2
          have BA : Below wi.heap.size wi (wi.alloc (.cells #[.int .i64 X, .int .i64 Y] 46)) := (Below.refl _ _).alloc (Nat.le_refl _) _
          have K0 : (wi.alloc (.cells #[.int .i64 X, .int .i64 Y] 46)).cell? ⟨wi.heap.size, 0, none⟩ = some (.int .i64 X) := by simp [go_sem]
          have K1x : (wi.alloc (.cells #[.int .i64 X, .int .i64 Y] 46)).cell? ⟨wi.heap.size, 1, none⟩ = some (.int .i64 Y) := by simp [go_sem]
          obtain ⟨A, hA⟩ : ∃ A, A = Lib.itoa X := ⟨_, rfl⟩
          obtain ⟨B, hB⟩ : ∃ B, B = Lib.itoa Y := ⟨_, rfl⟩
          have la : A.length ≤ 5 := by rw [hA]; exact itoa_len (by omega) (by omega)
          have lb : B.length ≤ 5 := by rw [hB]; exact itoa_len (by omega) (by omega)
          rw [← hya]
          obtain ⟨LT, hLT⟩ : ∃ Z, Z = st [ltr k] := ⟨_, rfl⟩
          rw [← hLT]
          have L76 : Hid (({ data := #[76] } : ByteArray) = st [ltr (k + 1)]) := hide rfl
          have NW : Hid (svX us ++ [.string LT, .string (st A), .string (st B)] = svX (us ++ pw3 k (y.l.getD k (0, 0)))) := hide (by
            rw [svX_app, GK, hLT, hA, hB, hX, hY]; rfl)
          have EU : Hid (us ++ pw3 k (y.l.getD k (0, 0)) = ws ++ wdP y.l (k + 1)) := hide (by
            rw [unhide HU, List.append_assoc]; rfl)
          have LU2 : Hid ((us ++ pw3 k (y.l.getD k (0, 0))).length = us.length + 3) := hide (by simp [pw3])
          have LU3 : Hid ((us ++ pw3 k (y.l.getD k (0, 0))).length ≤ 200) := hide (by
            rw [unhide EU, List.length_append, wdP_len]; have := unhide LW2; omega)
          have NE := hide (unhide R).apart
          obtain ⟨us2, hus2⟩ : ∃ z, z = us ++ pw3 k (y.l.getD k (0, 0)) := ⟨_, rfl⟩
          rw [← hus2] at NW EU LU2 LU3
          have D1 : Hid (∀ w, Tab15 w → Calls Tryd.prog 15 #[.int .i64 X] w fun e w' => e = .returned (.string (st A)) ∧ Below w.heap.size w w') := hide (fun w t => by rw [hA]; exact itoaZ X w (by omega) (by omega) t)
          have D2 : Hid (∀ w, Tab15 w → Calls Tryd.prog 15 #[.int .i64 Y] w fun e w' => e = .returned (.string (st B)) ∧ Below w.heap.size w w') := hide (fun w t => by rw [hB]; exact itoaZ Y w (by omega) (by omega) t)
          have HB1 := hide (below_on (unhide HB) BA)
          replace R := hide ((unhide R).later BA)
          clear e2 e3 r0 hX hY hc2 hkl GK BA HB HU hA hB la lb r2 hya hLT hus2
          go_upto_region 9 with fail
          generalize (wi.alloc (.cells #[.int .i64 X, .int .i64 Y] 46)) = w6 at *
          generalize wi.heap.size = PX at *
          refine wp_region_held_drew (S := fun w' => w'.cell? ⟨PX, 0, none⟩ = some (.int .i64 X) ∧ w'.cell? ⟨PX, 1, none⟩ = some (.int .i64 Y)) (by kernel_rfl) ⟨K0, K1x⟩ (fun hHeld => ?_)
          simp only [List.size_toArray, List.length_cons, List.length_nil, Nat.reduceAdd, Array.replicate_succ, Array.replicate_zero, List.push_toArray, List.nil_append, List.cons_append]
          refine wpAnyH_take (i := 0) (v := v2) rfl (by kernel_rfl) (by kernel_rfl) (by kernel_rfl) (fun _ _ _ h => h) (Or.inl ⟨by rfl, by intro w hSw; (try dsimp only at hSw); go_simp⟩) hHeld ?_
          simp only [Act.put, List.setIfInBounds_toArray, List.set_cons_zero, List.set_cons_succ]
          refine wpAnyH_take (i := 1) (v := .string LT) rfl (by kernel_rfl) (by kernel_rfl) (by kernel_rfl) (fun _ _ _ h => h) (Or.inl ⟨by rfl, by intro w hSw; (try dsimp only at hSw); go_simp⟩) hHeld ?_
          simp only [Act.put, List.setIfInBounds_toArray, List.set_cons_zero, List.set_cons_succ]
          refine wpAnyH_take (i := 2) (v := .pointer (some ⟨PX, 0, none⟩)) rfl (by kernel_rfl) (by kernel_rfl) (by kernel_rfl) (fun _ _ _ h => h) (Or.inl ⟨by rfl, by intro w hSw; (try dsimp only at hSw); go_simp⟩) hHeld ?_
          simp only [Act.put, List.setIfInBounds_toArray, List.set_cons_zero, List.set_cons_succ]
          refine wpAnyH_take (i := 3) (v := .int .i64 X) rfl (by kernel_rfl) (by kernel_rfl) (by kernel_rfl) (fun _ _ _ h => h) (Or.inl ⟨by rfl, by intro w hSw; (try dsimp only at hSw); go_simp⟩) hHeld ?_
          simp only [Act.put, List.setIfInBounds_toArray, List.set_cons_zero, List.set_cons_succ]
          refine wpAnyH_take (i := 5) (v := .pointer (some ⟨PX, 1, none⟩)) rfl (by kernel_rfl) (by kernel_rfl) (by kernel_rfl) (fun _ _ _ h => h) (Or.inl ⟨by rfl, by intro w hSw; (try dsimp only at hSw); go_simp⟩) hHeld ?_
          simp only [Act.put, List.setIfInBounds_toArray, List.set_cons_zero, List.set_cons_succ]
          refine wpAnyH_take (i := 6) (v := .int .i64 Y) rfl (by kernel_rfl) (by kernel_rfl) (by kernel_rfl) (fun _ _ _ h => h) (Or.inl ⟨by rfl, by intro w hSw; (try dsimp only at hSw); go_simp⟩) hHeld ?_
          simp only [Act.put, List.setIfInBounds_toArray, List.set_cons_zero, List.set_cons_succ]
          refine wpAnyH_ready (rs := [4]) (by kernel_rfl) (by simp) (AllReadyH.cons rfl (fun K hK => ?_) AllReadyH.nil)
          go_simp
          refine (unhide D1 _ ((unhide HT).later (unhide HB1).drew)).mono ?_
          rintro e w7 ⟨rfl, hb1⟩
          have hbx := below_of_drew hb1
          replace K0 := cell_later hbx K0
          replace K1x := cell_later hbx K1x
          replace R := hide ((unhide R).later hbx)
          replace HB1 := hide (below_on (unhide HB1) hbx)
          refine hK.out _ _ ⟨K0, K1x⟩ (fun hHeld2 => ?_)
          clear hK K hb1 hbx hHeld
          have hHeld := hHeld2
          clear hHeld2
          simp only [Act.put, List.setIfInBounds_toArray, List.set_cons_zero, List.set_cons_succ]
          refine wpAnyH_ready (rs := [7]) (by kernel_rfl) (by simp) (AllReadyH.cons rfl (fun K hK => ?_) AllReadyH.nil)
          go_simp
          refine (unhide D2 _ ((unhide HT).later (unhide HB1))).mono ?_
          rintro e w8 ⟨rfl, hb1⟩
          have hbx := hb1
          replace K0 := cell_later hbx K0
          replace K1x := cell_later hbx K1x
          replace R := hide ((unhide R).later hbx)
          replace HB1 := hide (below_on (unhide HB1) hbx)
          refine hK.out _ _ ⟨K0, K1x⟩ (fun hHeld2 => ?_)
          clear hK K hb1 hbx hHeld
          have hHeld := hHeld2
          clear hHeld2
          simp only [Act.put, List.setIfInBounds_toArray, List.set_cons_zero, List.set_cons_succ]
          have CA : Below w8.heap.size w8 (w8.alloc (.cells #[.string LT, .string (st A), .string (st B)] 9)) := (Below.refl _ _).alloc (Nat.le_refl _) _
          refine wpAnyH_ready (rs := [8]) (by kernel_rfl) (by simp) (AllReadyH.cons rfl (fun K hK => ?_) AllReadyH.nil)
          go_simp
          refine hK.out _ _ ⟨cell_later CA K0, cell_later CA K1x⟩ (fun hHeld2 => ?_)
          clear hK K hHeld
          have hHeld := hHeld2
          clear hHeld2
          simp only [List.getElem_toArray, List.getElem_cons_zero, List.getElem_cons_succ, Act.put, List.setIfInBounds_toArray, List.set_cons_zero, List.set_cons_succ]
          refine wpAnyH_ready (rs := [9]) (by kernel_rfl) (by simp) (AllReadyH.cons rfl (fun K hK => ?_) AllReadyH.nil)
          refine step_app16 rfl (.tmp 22) (.tmp 30) 49 rfl w.heap.size 9 i0 (.string ⟨#[]⟩) 1 16 Tryd.underlying49 (unhide I0).1 (unhide I0).2.1 (unhide I0).2.2.1 (unhide I0).2.2.2 rfl (by decide) v2 us.length (svX us) (by simp [Act.eval, Act.put]) ((unhide R).row.alloc _) ⟨w8.heap.size, 0, none⟩ 3 3 [.string LT, .string (st A), .string (st B)] (by simp [Act.eval, Act.put]) rfl (new_cell3X _ _ _ _) (fun u hu => by simp at hu; rcases hu with rfl | rfl | rfl <;> rfl) (by unfold maxLen; omega) (by omega) (by have := (unhide HB1).size; simp; omega) (fun v6 w9 own6 gr6 => ?_)
          have K0' := gr6.cell (cell_later CA K0) (unhide NE)
          have K1x' := gr6.cell (cell_later CA K1x) (unhide NE)
          have RN : Hid (RwX w.heap.size w9 v6 us2.length (svX us2)) := hide ⟨by rw [← unhide NW, unhide LU2]; exact own6⟩
          have HB2 := hide (owns_belowR (unhide HB1) (unhide HB1).size (unhide R).row gr6)
          clear own6 gr6 K0 K1x CA
          refine hK.out _ _ ⟨K0', K1x'⟩ (fun hHeld2 => ?_)
          clear hK K hHeld
          have hHeld := hHeld2
          clear hHeld2
          simp only [List.getElem_toArray, List.getElem_cons_zero, List.getElem_cons_succ, Act.put, List.setIfInBounds_toArray, List.set_cons_zero, List.set_cons_succ]
          refine wpAnyH_take (i := 10) (v := v6) rfl (by kernel_rfl) (by kernel_rfl) (by kernel_rfl) (fun _ _ _ h => h) (Or.inl ⟨by rfl, by intro w hSw; (try dsimp only at hSw); go_simp⟩) hHeld ?_
          simp only [List.getElem_toArray, List.getElem_cons_zero, List.getElem_cons_succ, Act.put, List.setIfInBounds_toArray, List.set_cons_zero, List.set_cons_succ]
          refine wpAnyH_done (by kernel_rfl) ?_ _
          clear hHeld
          go_wp2
          go_roundw
          case rel => exact ⟨k + 1, us2, _, rfl, by omega, by go_num, by rw [unhide L76], EU, unhide LU3, RN, HB2⟩
          case measure => simp [intOf]; omega
        · obtain rfl : k = y.n := by omega
          go_wp2_with (at_builtin; refine wpList_append_own _ rfl (.tmp 33) (.tmp 34) 49 rfl w.heap.size 9 i0 (.string ⟨#[]⟩) 1 16 Tryd.underlying49 (unhide I0).1 (unhide I0).2.1 (unhide I0).2.2.1 (unhide I0).2.2.2 rfl (by decide) _ _ _ rfl ((unhide R).row.alloc _) ⟨_, 0, none⟩ 1 1 [.string { data := #[90] }] rfl rfl (new_cell1X _ _) (fun u hu => by simp at hu; subst hu; rfl) (by unfold maxLen; omega) (by omega) (by have := (unhide HB).size; simp; omega) ?_)
          intro v' w7 hown hgr _
          have EU2 : Hid (us ++ [[90]] = wdW (dW rs) (i + 1)) := hide (by rw [unhide EW, unhide HU])
          have LU2 : Hid ((us ++ [[90]]).length ≤ 150) := hide (by
            rw [unhide EU2]; have := wdW_len (unhide GN) (i + 1) (by rw [unhide HN]; omega); omega)
          have RN : Hid (RwX w.heap.size w7 v' (us ++ [[90]]).length (svX (us ++ [[90]]))) := hide ⟨by rw [svX_app, List.length_append]; exact hown⟩
          have HB2 := hide (owns_belowR (unhide HB) (unhide HB).size (unhide R).row hgr)
          clear hown hgr R HB EW
          go_wp2
          go_roundw
          case rel => exact ⟨i + 1, us ++ [[90]], _, rfl, by omega, by go_num, EU2, unhide LU2, RN, HB2⟩
          case measure => simp [intOf]; omega
    · obtain rfl : i = n := by omega
      have n1' := unhide n1
      have EJ0 := join_wdW (dW rs) n1'
      rw [← unhide HW] at EJ0
      have wl : 1 ≤ ws.length := by
        have : ws ≠ [] := by
          rw [unhide HW]
          obtain ⟨j, hj⟩ : ∃ j, i = j + 1 := ⟨i - 1, by omega⟩
          rw [hj]; simp [wdW]
        exact List.length_pos_iff.2 this
      obtain ⟨g, cc, rfl, g1, g2, g3, g4⟩ := (unhide R).open wl
      have EJ : Lib.join ((ws.map st).map (·.data.toList)) [32] = txW (dW rs) i := by
        rw [List.map_map, show ((fun x : ByteArray => x.data.toList) ∘ st) = id from funext (fun p => st_data _), List.map_id, EJ0]
      have CJ := Tryd.strings_Join g 0 cc (ws.map st) { data := #[32] } wr (fun j x hx => by
        have hj : j < ws.length := by have := (List.getElem?_eq_some_iff.1 hx).1; simpa using this
        rw [Nat.zero_add, g4 j hj]
        rw [List.getElem?_map, List.getElem?_eq_getElem hj] at hx
        simp at hx
        subst hx
        simp [svX, hj]) g2 (by simp; omega) (by simp; omega) (by
        show (Lib.join ((ws.map st).map (·.data.toList)) [32]).length ≤ 140737488355328
        rw [EJ]; have := txW_len (unhide GN) i (by rw [unhide HN]; exact Nat.le_refl _); omega)
      rw [show Lib.join ((ws.map st).map (·.data.toList)) ({ data := #[32] } : ByteArray).data.toList = txW (dW rs) i from EJ, show (ws.map st).length = ws.length from List.length_map _] at CJ
      clear EJ R g4 EJ0
      go_wp2_with fail
      refine CJ.mono ?_
      rintro e w9 ⟨rfl, hb⟩
      have HB9 := hide (below_on (unhide HB) hb)
      clear hb CJ
      go_wp2_with fail
      go_ret
      exact ⟨rfl, unhide HB9⟩
end Go.Proofs.YtoffondgdnmhkaaDoorRRR

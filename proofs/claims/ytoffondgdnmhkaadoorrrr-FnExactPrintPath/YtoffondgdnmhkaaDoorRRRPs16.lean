/- l16Print: ways as a text, by value. No condition beyond those typed. Written by mkpp16.py. -/
import Derived.Test.YtoffondgdnmhkaaDoorRRRPf16
namespace Go.Proofs.YtoffondgdnmhkaaDoorRRR
open Go.RowKit
set_option linter.unusedVariables false
set_option maxRecDepth 100000
set_option linter.unusedSimpArgs false

set_option maxHeartbeats 16000000 in
theorem printS (a : Option Addr) (n c : Nat) (rs : List RW) (w : World) (h : WSl w a rs) (hn : rs.length = n) (hg : gWs (dW rs) = true) :
    Calls Tryd.prog 18 #[.slice a n c] w fun e w' => e = .returned (.string (st (txW (dW rs) n))) ∧ Below w.heap.size w w' := by
  have G := gWs_at hg
  have n4 : n ≤ 4 := by rw [← hn]; exact G.1
  have GN := hide G.2.2
  have HS := hide h
  have HN := hide hn
  obtain ⟨K32, c32⟩ : ∃ K, ({ data := #[32] } : ByteArray) = K ∧ K = st [32] := ⟨_, rfl, rfl⟩
  obtain ⟨K90, c90⟩ : ∃ K, ({ data := #[90] } : ByteArray) = K ∧ K = st [90] := ⟨_, rfl, rfl⟩
  have x32 := hide c32.2
  have x90 := hide c90.2
  replace c32 := c32.1
  replace c90 := c90.1
  clear h hn hg G
  go_enter Tryd.func18, Tryd.ntmps18
  go_wp2
  go_loopw [3, 10] (fun sv iv wr => ∃ (i : Nat) (L : List UInt8), i ≤ n ∧ iv = .int .i64 i ∧ sv = .string (st L) ∧ Hid (L = txW (dW rs) i) ∧ L.length ≤ 700 ∧ Hid (Below w.heap.size w wr)) (fun _ iv _ => n - (intOf iv).toNat)
  case atStart => exact ⟨0, [], Nat.zero_le _, rfl, rfl, hide rfl, by simp, hide (Below.refl _ _)⟩
  case round =>
    obtain ⟨i, L, hi, rfl, rfl, HL, LL, HB⟩ := hrel
    by_cases hlt : i < n
    · have hlt' : (i : Int) < (n : Int) := by omega
      rcases (unhide HS).at_ with e | ⟨b, off, rfl, hb, hc⟩
      · exact absurd (unhide HN) (by rw [e]; simp; omega)
      have hil : i < rs.length := by rw [unhide HN]; exact hlt
      have e0 := hc i hil
      have DI := hide (dW_at hil)
      obtain ⟨y, hy⟩ : ∃ y, y = rs[i] := ⟨_, rfl⟩
      rw [← hy] at e0 DI
      have MY : Hid (y ∈ rs) := hide (by rw [hy]; exact List.getElem_mem _)
      have E0 : wr.cell? ⟨b, off + i, none⟩ = some (.slice y.a y.n y.c) := ((unhide HB).cell (p := ⟨b, off + i, none⟩) hb).trans e0
      have NY := hide (unhide GN y (unhide MY))
      have RY := hide ((unhide HS).rd y (unhide MY))
      have ny : y.n ≤ 12 := by rw [← (unhide RY).2.1]; exact (unhide NY).1
      clear hy hc e0 hil
      obtain ⟨P, hP⟩ : ∃ P, P = txA (dW rs) i L := ⟨_, rfl⟩
      have LP : P.length ≤ 701 := by rw [hP]; unfold txA; split <;> simp; omega
      have EP : Hid (txW (dW rs) (i + 1) = P ++ txP y.l y.n ++ [90]) := hide (by
        rw [show txW (dW rs) (i + 1) = txA (dW rs) i (txW (dW rs) i) ++ txP ((dW rs).getD i []) ((dW rs).getD i []).length ++ [90] from rfl, unhide DI, (unhide RY).2.1, ← unhide HL, ← hP])
      obtain ⟨wx, hwx⟩ : ∃ x, x = wr := ⟨_, rfl⟩
      subst hwx
      by_cases i0 : i = 0
      · have d0 : decide ((0 : Int) < (i : Int)) = false := decide_eq_false (by omega)
        have d0' : ¬ (0 : Int) < (i : Int) := by omega
        have PL : P = L := by
          have : L = [] := by rw [unhide HL, i0]; rfl
          rw [hP, this]; unfold txA; rw [if_pos i0]
        rw [← PL] at LL ⊢
        replace i0 := hide i0
        clear PL hP HL
        go_wp2
        go_loopw [3, 21] (fun sv kv wr => ∃ (k : Nat) (M : List UInt8), k ≤ y.n ∧ kv = .int .i64 k ∧ sv = .string (st M) ∧ Hid (M = P ++ txP y.l k) ∧ M.length ≤ 900 ∧ Hid (Below w.heap.size w wr)) (fun _ kv _ => y.n - (intOf kv).toNat)
        case atStart => exact ⟨0, P, Nat.zero_le _, rfl, rfl, hide (by simp [txP]), by omega, HB⟩
        case round =>
          clear HB E0 LL
          obtain ⟨k, M, hk, rfl, rfl, HM, LM, HB⟩ := hrel
          obtain ⟨wi, hwi⟩ : ∃ x, x = wr := ⟨_, rfl⟩
          subst hwi
          by_cases klt : k < y.n
          · have klt' : (k : Int) < (y.n : Int) := by omega
            have r1 := (unhide RY).1
            have r2 := (unhide RY).2.1
            have hkl : k < y.l.length := by rw [r2]; exact klt
            have r0 := (unhide NY).2 k hkl
            have LK := txP_len (unhide NY) k (by omega)
            have GK : y.l.getD k (0, 0) = y.l[k] := by simp [List.getD, hkl]
            obtain ⟨ya, hya⟩ : ∃ z, z = y.a := ⟨_, rfl⟩
            rw [← hya] at r1
            rcases r1 with e | ⟨b2, off2, e, hb2, hc2⟩
            · rw [e] at hkl; simp at hkl
            subst e
            have e2 := hc2 k hkl
            have e3 := And.intro (((unhide HB).cell (p := ⟨b2, off2 + k * 2, none⟩) hb2).trans e2.1) (((unhide HB).cell (p := ⟨b2, off2 + k * 2 + 1, none⟩) hb2).trans e2.2)
            obtain ⟨X, hX⟩ : ∃ X, X = y.l[k].1 := ⟨_, rfl⟩
            obtain ⟨Y, hY⟩ : ∃ Y, Y = y.l[k].2 := ⟨_, rfl⟩
            rw [← hX, ← hY] at r0
            have E0 : wi.cell? ⟨b2, off2 + k * 2, none⟩ = some (.int .i64 X) := by rw [hX]; exact e3.1
            have E1 : wi.cell? ⟨b2, off2 + k * 2 + 1, none⟩ = some (.int .i64 Y) := by rw [hY]; exact e3.2
            have BA : Below wi.heap.size wi (wi.alloc (.cells #[.int .i64 X, .int .i64 Y] 46)) := (Below.refl _ _).alloc (Nat.le_refl _) _
            have K0 : (wi.alloc (.cells #[.int .i64 X, .int .i64 Y] 46)).cell? ⟨wi.heap.size, 0, none⟩ = some (.int .i64 X) := by simp [go_sem]
            have K1x : (wi.alloc (.cells #[.int .i64 X, .int .i64 Y] 46)).cell? ⟨wi.heap.size, 1, none⟩ = some (.int .i64 Y) := by simp [go_sem]
            obtain ⟨A, hA⟩ : ∃ A, A = Lib.itoa X := ⟨_, rfl⟩
            obtain ⟨B, hB⟩ : ∃ B, B = Lib.itoa Y := ⟨_, rfl⟩
            have la : A.length ≤ 5 := by rw [hA]; exact itoa_len (by omega) (by omega)
            have lb : B.length ≤ 5 := by rw [hB]; exact itoa_len (by omega) (by omega)
            rw [← hya]
            obtain ⟨M1, hM1⟩ : ∃ Z, Z = M ++ ([ltr k] ++ [32]) := ⟨_, rfl⟩
            obtain ⟨T1, t1⟩ : ∃ Z, Z = A ++ [32] := ⟨_, rfl⟩
            obtain ⟨T2, t2⟩ : ∃ Z, Z = T1 ++ B := ⟨_, rfl⟩
            obtain ⟨T3, t3⟩ : ∃ Z, Z = T2 ++ [32] := ⟨_, rfl⟩
            obtain ⟨M2, hM2⟩ : ∃ Z, Z = M1 ++ T3 := ⟨_, rfl⟩
            have l1 : T1.length ≤ 6 := by rw [t1]; simp; omega
            have l2 : T2.length ≤ 11 := by rw [t2]; simp; omega
            have l3 : T3.length ≤ 12 := by rw [t3]; simp; omega
            have m1 : M1.length ≤ 902 := by rw [hM1]; simp; omega
            have A1 : st A ++ K32 = st T1 := by rw [unhide x32, st_add, t1]
            have A2 : st T1 ++ st B = st T2 := by rw [st_add, t2]
            have A3 : st T2 ++ K32 = st T3 := by rw [unhide x32, st_add, t3]
            have A4 : st M1 ++ st T3 = st M2 := by rw [st_add, hM2]
            have s32 : K32.size = 1 := by rw [unhide x32, st_size]; rfl
            have y1 : ¬ (9223372036854775807 < (st A).size + K32.size) := by rw [st_size]; omega
            have y2 : ¬ (9223372036854775807 < (st T1).size + (st B).size) := by rw [st_size, st_size]; omega
            have y3 : ¬ (9223372036854775807 < (st T2).size + K32.size) := by rw [st_size]; omega
            have y4 : ¬ (9223372036854775807 < (st M1).size + (st T3).size) := by rw [st_size, st_size]; omega
            have EM2 : Hid (M2 = P ++ txP y.l (k + 1)) := hide (by
              rw [hM2, hM1, unhide HM, show txP y.l (k + 1) = txP y.l k ++ pt3 k (y.l.getD k (0, 0)) from rfl, GK]
              unfold pt3
              rw [← hX, ← hY, ← hA, ← hB, t3, t2, t1]
              simp [List.append_assoc])
            have LM2 : Hid (M2.length ≤ 900) := hide (by
              rw [unhide EM2, List.length_append]
              have := txP_len (unhide NY) (k + 1) (by omega)
              omega)
            have D1 : Hid (∀ w : World, Calls Tryd.prog 13 #[.int .i64 X] w fun e w' => e = .returned (.string (st A)) ∧ Below w.heap.size w w') := hide (fun w => by rw [hA]; exact num16S X w (by omega) (by omega))
            have D2 : Hid (∀ w : World, Calls Tryd.prog 13 #[.int .i64 Y] w fun e w' => e = .returned (.string (st B)) ∧ Below w.heap.size w w') := hide (fun w => by rw [hB]; exact num16S Y w (by omega) (by omega))
            have HB1 := hide (below_on (unhide HB) BA)
            replace hA := hide hA
            replace hB := hide hB
            by_cases k0 : k = 0
            · have AM0 : M1 = M ++ [77, 32] := by rw [hM1, k0]; rfl
              obtain ⟨KM, cM⟩ : ∃ K, ({ data := #[77, 32] } : ByteArray) = K ∧ K = st [77, 32] := ⟨_, rfl, rfl⟩
              have AM : st M ++ KM = st M1 := by rw [cM.2, st_add, AM0]
              have yM : ¬ (9223372036854775807 < (st M).size + KM.size) := by rw [cM.2, st_size, st_size]; simp; omega
              replace cM := cM.1
              clear e2 e3 r0 hX hY hc2 hkl LK GK BA HB HM t1 t2 t3 l1 l2 l3 m1 hM1 hM2 la lb r2 s32 hya AM0
              obtain rfl : k = 0 := k0
              rw [Nat.zero_mul, Nat.add_zero] at E0 E1
              go_upto_region 13 with fail
              generalize (wi.alloc (.cells #[.int .i64 X, .int .i64 Y] 46)) = w6 at *
              generalize wi.heap.size = PX at *
              refine wp_region_held_drew (S := fun w' => w'.cell? ⟨PX, 0, none⟩ = some (.int .i64 X) ∧ w'.cell? ⟨PX, 1, none⟩ = some (.int .i64 Y)) (by kernel_rfl) ⟨K0, K1x⟩ (fun hHeld => ?_)
              simp only [List.size_toArray, List.length_cons, List.length_nil, Nat.reduceAdd, Array.replicate_succ, Array.replicate_zero, List.push_toArray, List.nil_append, List.cons_append]
              refine wpAnyH_take (i := 0) (v := .string (st M1)) rfl (by kernel_rfl) (by kernel_rfl) (by kernel_rfl) (fun _ _ _ h => h) (Or.inl ⟨by rfl, by intro w hSw; (try dsimp only at hSw); go_simp⟩) hHeld ?_
              simp only [Act.put, List.setIfInBounds_toArray, List.set_cons_zero, List.set_cons_succ]
              refine wpAnyH_take (i := 1) (v := .pointer (some ⟨PX, 0, none⟩)) rfl (by kernel_rfl) (by kernel_rfl) (by kernel_rfl) (fun _ _ _ h => h) (Or.inl ⟨by rfl, by intro w hSw; (try dsimp only at hSw); go_simp⟩) hHeld ?_
              simp only [Act.put, List.setIfInBounds_toArray, List.set_cons_zero, List.set_cons_succ]
              refine wpAnyH_take (i := 2) (v := .int .i64 X) rfl (by kernel_rfl) (by kernel_rfl) (by kernel_rfl) (fun _ _ _ h => h) (Or.inl ⟨by rfl, by intro w hSw; (try dsimp only at hSw); go_simp⟩) hHeld ?_
              simp only [Act.put, List.setIfInBounds_toArray, List.set_cons_zero, List.set_cons_succ]
              refine wpAnyH_take (i := 5) (v := .pointer (some ⟨PX, 1, none⟩)) rfl (by kernel_rfl) (by kernel_rfl) (by kernel_rfl) (fun _ _ _ h => h) (Or.inl ⟨by rfl, by intro w hSw; (try dsimp only at hSw); go_simp⟩) hHeld ?_
              simp only [Act.put, List.setIfInBounds_toArray, List.set_cons_zero, List.set_cons_succ]
              refine wpAnyH_take (i := 6) (v := .int .i64 Y) rfl (by kernel_rfl) (by kernel_rfl) (by kernel_rfl) (fun _ _ _ h => h) (Or.inl ⟨by rfl, by intro w hSw; (try dsimp only at hSw); go_simp⟩) hHeld ?_
              simp only [Act.put, List.setIfInBounds_toArray, List.set_cons_zero, List.set_cons_succ]
              refine wpAnyH_ready (rs := [3]) (by kernel_rfl) (by simp) (AllReadyH.cons rfl (fun K hK => ?_) AllReadyH.nil)
              go_simp
              refine (unhide D1 _).mono ?_
              rintro e w7 ⟨rfl, hb1⟩
              have hbx := below_of_drew hb1
              replace K0 := cell_later hbx K0
              replace K1x := cell_later hbx K1x
              replace HB1 := hide (below_on (unhide HB1) hbx)
              refine hK.out _ _ ⟨K0, K1x⟩ (fun hHeld2 => ?_)
              clear hK K hb1 hbx hHeld
              have hHeld := hHeld2
              clear hHeld2
              simp only [Act.put, List.setIfInBounds_toArray, List.set_cons_zero, List.set_cons_succ]
              refine wpAnyH_take (i := 4) (v := .string (st T1)) rfl (by kernel_rfl) (by kernel_rfl) (by kernel_rfl) (fun _ _ _ h => h) (Or.inl ⟨by rfl, by intro w hSw; (try dsimp only at hSw); go_simp⟩) hHeld ?_
              simp only [Act.put, List.setIfInBounds_toArray, List.set_cons_zero, List.set_cons_succ]
              refine wpAnyH_ready (rs := [7]) (by kernel_rfl) (by simp) (AllReadyH.cons rfl (fun K hK => ?_) AllReadyH.nil)
              go_simp
              refine (unhide D2 _).mono ?_
              rintro e w8 ⟨rfl, hb1⟩
              have hbx := hb1
              replace K0 := cell_later hbx K0
              replace K1x := cell_later hbx K1x
              replace HB1 := hide (below_on (unhide HB1) hbx)
              refine hK.out _ _ ⟨K0, K1x⟩ (fun hHeld2 => ?_)
              clear hK K hb1 hbx hHeld
              have hHeld := hHeld2
              clear hHeld2
              simp only [Act.put, List.setIfInBounds_toArray, List.set_cons_zero, List.set_cons_succ]
              refine wpAnyH_take (i := 8) (v := .string (st T2)) rfl (by kernel_rfl) (by kernel_rfl) (by kernel_rfl) (fun _ _ _ h => h) (Or.inl ⟨by rfl, by intro w hSw; (try dsimp only at hSw); go_simp⟩) hHeld ?_
              simp only [List.getElem_toArray, List.getElem_cons_zero, List.getElem_cons_succ, Act.put, List.setIfInBounds_toArray, List.set_cons_zero, List.set_cons_succ]
              refine wpAnyH_take (i := 9) (v := .string (st T3)) rfl (by kernel_rfl) (by kernel_rfl) (by kernel_rfl) (fun _ _ _ h => h) (Or.inl ⟨by rfl, by intro w hSw; (try dsimp only at hSw); go_simp⟩) hHeld ?_
              simp only [List.getElem_toArray, List.getElem_cons_zero, List.getElem_cons_succ, Act.put, List.setIfInBounds_toArray, List.set_cons_zero, List.set_cons_succ]
              refine wpAnyH_take (i := 10) (v := .string (st M2)) rfl (by kernel_rfl) (by kernel_rfl) (by kernel_rfl) (fun _ _ _ h => h) (Or.inl ⟨by rfl, by intro w hSw; (try dsimp only at hSw); go_simp⟩) hHeld ?_
              simp only [List.getElem_toArray, List.getElem_cons_zero, List.getElem_cons_succ, Act.put, List.setIfInBounds_toArray, List.set_cons_zero, List.set_cons_succ]
              refine wpAnyH_take (i := 11) (v := .string (st M2)) rfl (by kernel_rfl) (by kernel_rfl) (by kernel_rfl) (fun _ _ _ h => h) (Or.inl ⟨by rfl, by intro w hSw; (try dsimp only at hSw); go_simp⟩) hHeld ?_
              simp only [List.getElem_toArray, List.getElem_cons_zero, List.getElem_cons_succ, Act.put, List.setIfInBounds_toArray, List.set_cons_zero, List.set_cons_succ]
              refine wpAnyH_done (by kernel_rfl) ?_ _
              clear hHeld
              go_wp2
              go_roundw
              case rel => exact ⟨0 + 1, M2, by omega, by go_num, rfl, EM2, unhide LM2, HB1⟩
              case measure => simp [intOf]; omega
            · have d1 : ((k : Int) == 0) = false := by simpa using k0
              have d1' : ¬ (k : Int) = 0 := by omega
              obtain ⟨KM, cM⟩ : ∃ K, ({ data := #[76, 32] } : ByteArray) = K ∧ K = st [76, 32] := ⟨_, rfl, rfl⟩
              have AM : st M ++ KM = st M1 := by rw [cM.2, st_add, hM1]; unfold ltr; rw [if_neg k0]; rfl
              have yM : ¬ (9223372036854775807 < (st M).size + KM.size) := by rw [cM.2, st_size, st_size]; simp; omega
              replace cM := cM.1
              clear e2 e3 r0 hX hY hc2 hkl LK GK BA HB HM t1 t2 t3 l1 l2 l3 m1 hM1 hM2 la lb k0 r2 s32 hya
              go_upto_region 13 with fail
              generalize (wi.alloc (.cells #[.int .i64 X, .int .i64 Y] 46)) = w6 at *
              generalize wi.heap.size = PX at *
              refine wp_region_held_drew (S := fun w' => w'.cell? ⟨PX, 0, none⟩ = some (.int .i64 X) ∧ w'.cell? ⟨PX, 1, none⟩ = some (.int .i64 Y)) (by kernel_rfl) ⟨K0, K1x⟩ (fun hHeld => ?_)
              simp only [List.size_toArray, List.length_cons, List.length_nil, Nat.reduceAdd, Array.replicate_succ, Array.replicate_zero, List.push_toArray, List.nil_append, List.cons_append]
              refine wpAnyH_take (i := 0) (v := .string (st M1)) rfl (by kernel_rfl) (by kernel_rfl) (by kernel_rfl) (fun _ _ _ h => h) (Or.inl ⟨by rfl, by intro w hSw; (try dsimp only at hSw); go_simp⟩) hHeld ?_
              simp only [Act.put, List.setIfInBounds_toArray, List.set_cons_zero, List.set_cons_succ]
              refine wpAnyH_take (i := 1) (v := .pointer (some ⟨PX, 0, none⟩)) rfl (by kernel_rfl) (by kernel_rfl) (by kernel_rfl) (fun _ _ _ h => h) (Or.inl ⟨by rfl, by intro w hSw; (try dsimp only at hSw); go_simp⟩) hHeld ?_
              simp only [Act.put, List.setIfInBounds_toArray, List.set_cons_zero, List.set_cons_succ]
              refine wpAnyH_take (i := 2) (v := .int .i64 X) rfl (by kernel_rfl) (by kernel_rfl) (by kernel_rfl) (fun _ _ _ h => h) (Or.inl ⟨by rfl, by intro w hSw; (try dsimp only at hSw); go_simp⟩) hHeld ?_
              simp only [Act.put, List.setIfInBounds_toArray, List.set_cons_zero, List.set_cons_succ]
              refine wpAnyH_take (i := 5) (v := .pointer (some ⟨PX, 1, none⟩)) rfl (by kernel_rfl) (by kernel_rfl) (by kernel_rfl) (fun _ _ _ h => h) (Or.inl ⟨by rfl, by intro w hSw; (try dsimp only at hSw); go_simp⟩) hHeld ?_
              simp only [Act.put, List.setIfInBounds_toArray, List.set_cons_zero, List.set_cons_succ]
              refine wpAnyH_take (i := 6) (v := .int .i64 Y) rfl (by kernel_rfl) (by kernel_rfl) (by kernel_rfl) (fun _ _ _ h => h) (Or.inl ⟨by rfl, by intro w hSw; (try dsimp only at hSw); go_simp⟩) hHeld ?_
              simp only [Act.put, List.setIfInBounds_toArray, List.set_cons_zero, List.set_cons_succ]
              refine wpAnyH_ready (rs := [3]) (by kernel_rfl) (by simp) (AllReadyH.cons rfl (fun K hK => ?_) AllReadyH.nil)
              go_simp
              refine (unhide D1 _).mono ?_
              rintro e w7 ⟨rfl, hb1⟩
              have hbx := below_of_drew hb1
              replace K0 := cell_later hbx K0
              replace K1x := cell_later hbx K1x
              replace HB1 := hide (below_on (unhide HB1) hbx)
              refine hK.out _ _ ⟨K0, K1x⟩ (fun hHeld2 => ?_)
              clear hK K hb1 hbx hHeld
              have hHeld := hHeld2
              clear hHeld2
              simp only [Act.put, List.setIfInBounds_toArray, List.set_cons_zero, List.set_cons_succ]
              refine wpAnyH_take (i := 4) (v := .string (st T1)) rfl (by kernel_rfl) (by kernel_rfl) (by kernel_rfl) (fun _ _ _ h => h) (Or.inl ⟨by rfl, by intro w hSw; (try dsimp only at hSw); go_simp⟩) hHeld ?_
              simp only [Act.put, List.setIfInBounds_toArray, List.set_cons_zero, List.set_cons_succ]
              refine wpAnyH_ready (rs := [7]) (by kernel_rfl) (by simp) (AllReadyH.cons rfl (fun K hK => ?_) AllReadyH.nil)
              go_simp
              refine (unhide D2 _).mono ?_
              rintro e w8 ⟨rfl, hb1⟩
              have hbx := hb1
              replace K0 := cell_later hbx K0
              replace K1x := cell_later hbx K1x
              replace HB1 := hide (below_on (unhide HB1) hbx)
              refine hK.out _ _ ⟨K0, K1x⟩ (fun hHeld2 => ?_)
              clear hK K hb1 hbx hHeld
              have hHeld := hHeld2
              clear hHeld2
              simp only [Act.put, List.setIfInBounds_toArray, List.set_cons_zero, List.set_cons_succ]
              refine wpAnyH_take (i := 8) (v := .string (st T2)) rfl (by kernel_rfl) (by kernel_rfl) (by kernel_rfl) (fun _ _ _ h => h) (Or.inl ⟨by rfl, by intro w hSw; (try dsimp only at hSw); go_simp⟩) hHeld ?_
              simp only [List.getElem_toArray, List.getElem_cons_zero, List.getElem_cons_succ, Act.put, List.setIfInBounds_toArray, List.set_cons_zero, List.set_cons_succ]
              refine wpAnyH_take (i := 9) (v := .string (st T3)) rfl (by kernel_rfl) (by kernel_rfl) (by kernel_rfl) (fun _ _ _ h => h) (Or.inl ⟨by rfl, by intro w hSw; (try dsimp only at hSw); go_simp⟩) hHeld ?_
              simp only [List.getElem_toArray, List.getElem_cons_zero, List.getElem_cons_succ, Act.put, List.setIfInBounds_toArray, List.set_cons_zero, List.set_cons_succ]
              refine wpAnyH_take (i := 10) (v := .string (st M2)) rfl (by kernel_rfl) (by kernel_rfl) (by kernel_rfl) (fun _ _ _ h => h) (Or.inl ⟨by rfl, by intro w hSw; (try dsimp only at hSw); go_simp⟩) hHeld ?_
              simp only [List.getElem_toArray, List.getElem_cons_zero, List.getElem_cons_succ, Act.put, List.setIfInBounds_toArray, List.set_cons_zero, List.set_cons_succ]
              refine wpAnyH_take (i := 11) (v := .string (st M2)) rfl (by kernel_rfl) (by kernel_rfl) (by kernel_rfl) (fun _ _ _ h => h) (Or.inl ⟨by rfl, by intro w hSw; (try dsimp only at hSw); go_simp⟩) hHeld ?_
              simp only [List.getElem_toArray, List.getElem_cons_zero, List.getElem_cons_succ, Act.put, List.setIfInBounds_toArray, List.set_cons_zero, List.set_cons_succ]
              refine wpAnyH_done (by kernel_rfl) ?_ _
              clear hHeld
              go_wp2
              go_roundw
              case rel => exact ⟨k + 1, M2, by omega, by go_num, rfl, EM2, unhide LM2, HB1⟩
              case measure => simp [intOf]; omega
          · obtain rfl : k = y.n := by omega
            obtain ⟨M9, hM9⟩ : ∃ Z, Z = M ++ [90] := ⟨_, rfl⟩
            have A9 : st M ++ K90 = st M9 := by rw [unhide x90, st_add, hM9]
            have y9 : ¬ (9223372036854775807 < (st M).size + K90.size) := by rw [unhide x90, st_size, st_size]; simp; omega
            have EM9 : Hid (M9 = txW (dW rs) (i + 1)) := hide (by rw [unhide EP, hM9, unhide HM])
            have LM9 : Hid (M9.length ≤ 700) := hide (by
              rw [unhide EM9]
              have := txW_len (unhide GN) (i + 1) (by rw [unhide HN]; omega)
              omega)
            clear hM9 EP
            go_wp2
            go_roundw
            case rel => exact ⟨i + 1, M9, by omega, by go_num, rfl, EM9, unhide LM9, HB⟩
            case measure => simp [intOf]; omega
      · have d0 : decide ((0 : Int) < (i : Int)) = true := decide_eq_true (by omega)
        have d0' : (0 : Int) < (i : Int) := by omega
        have d0n : decide (0 < i) = true := decide_eq_true (by omega)
        have d0m : 0 < i := by omega
        have PL : P = L ++ [32] := by rw [hP]; unfold txA; rw [if_neg i0]
        have AP : st L ++ K32 = st P := by rw [unhide x32, st_add, PL]
        have yP : ¬ (9223372036854775807 < (st L).size + K32.size) := by rw [unhide x32, st_size, st_size]; simp; omega
        replace i0 := hide i0
        clear PL hP HL
        go_wp2
        go_loopw [3, 21] (fun sv kv wr => ∃ (k : Nat) (M : List UInt8), k ≤ y.n ∧ kv = .int .i64 k ∧ sv = .string (st M) ∧ Hid (M = P ++ txP y.l k) ∧ M.length ≤ 900 ∧ Hid (Below w.heap.size w wr)) (fun _ kv _ => y.n - (intOf kv).toNat)
        case atStart => exact ⟨0, P, Nat.zero_le _, rfl, rfl, hide (by simp [txP]), by omega, HB⟩
        case round =>
          clear HB E0 LL
          obtain ⟨k, M, hk, rfl, rfl, HM, LM, HB⟩ := hrel
          obtain ⟨wi, hwi⟩ : ∃ x, x = wr := ⟨_, rfl⟩
          subst hwi
          by_cases klt : k < y.n
          · have klt' : (k : Int) < (y.n : Int) := by omega
            have r1 := (unhide RY).1
            have r2 := (unhide RY).2.1
            have hkl : k < y.l.length := by rw [r2]; exact klt
            have r0 := (unhide NY).2 k hkl
            have LK := txP_len (unhide NY) k (by omega)
            have GK : y.l.getD k (0, 0) = y.l[k] := by simp [List.getD, hkl]
            obtain ⟨ya, hya⟩ : ∃ z, z = y.a := ⟨_, rfl⟩
            rw [← hya] at r1
            rcases r1 with e | ⟨b2, off2, e, hb2, hc2⟩
            · rw [e] at hkl; simp at hkl
            subst e
            have e2 := hc2 k hkl
            have e3 := And.intro (((unhide HB).cell (p := ⟨b2, off2 + k * 2, none⟩) hb2).trans e2.1) (((unhide HB).cell (p := ⟨b2, off2 + k * 2 + 1, none⟩) hb2).trans e2.2)
            obtain ⟨X, hX⟩ : ∃ X, X = y.l[k].1 := ⟨_, rfl⟩
            obtain ⟨Y, hY⟩ : ∃ Y, Y = y.l[k].2 := ⟨_, rfl⟩
            rw [← hX, ← hY] at r0
            have E0 : wi.cell? ⟨b2, off2 + k * 2, none⟩ = some (.int .i64 X) := by rw [hX]; exact e3.1
            have E1 : wi.cell? ⟨b2, off2 + k * 2 + 1, none⟩ = some (.int .i64 Y) := by rw [hY]; exact e3.2
            have BA : Below wi.heap.size wi (wi.alloc (.cells #[.int .i64 X, .int .i64 Y] 46)) := (Below.refl _ _).alloc (Nat.le_refl _) _
            have K0 : (wi.alloc (.cells #[.int .i64 X, .int .i64 Y] 46)).cell? ⟨wi.heap.size, 0, none⟩ = some (.int .i64 X) := by simp [go_sem]
            have K1x : (wi.alloc (.cells #[.int .i64 X, .int .i64 Y] 46)).cell? ⟨wi.heap.size, 1, none⟩ = some (.int .i64 Y) := by simp [go_sem]
            obtain ⟨A, hA⟩ : ∃ A, A = Lib.itoa X := ⟨_, rfl⟩
            obtain ⟨B, hB⟩ : ∃ B, B = Lib.itoa Y := ⟨_, rfl⟩
            have la : A.length ≤ 5 := by rw [hA]; exact itoa_len (by omega) (by omega)
            have lb : B.length ≤ 5 := by rw [hB]; exact itoa_len (by omega) (by omega)
            rw [← hya]
            obtain ⟨M1, hM1⟩ : ∃ Z, Z = M ++ ([ltr k] ++ [32]) := ⟨_, rfl⟩
            obtain ⟨T1, t1⟩ : ∃ Z, Z = A ++ [32] := ⟨_, rfl⟩
            obtain ⟨T2, t2⟩ : ∃ Z, Z = T1 ++ B := ⟨_, rfl⟩
            obtain ⟨T3, t3⟩ : ∃ Z, Z = T2 ++ [32] := ⟨_, rfl⟩
            obtain ⟨M2, hM2⟩ : ∃ Z, Z = M1 ++ T3 := ⟨_, rfl⟩
            have l1 : T1.length ≤ 6 := by rw [t1]; simp; omega
            have l2 : T2.length ≤ 11 := by rw [t2]; simp; omega
            have l3 : T3.length ≤ 12 := by rw [t3]; simp; omega
            have m1 : M1.length ≤ 902 := by rw [hM1]; simp; omega
            have A1 : st A ++ K32 = st T1 := by rw [unhide x32, st_add, t1]
            have A2 : st T1 ++ st B = st T2 := by rw [st_add, t2]
            have A3 : st T2 ++ K32 = st T3 := by rw [unhide x32, st_add, t3]
            have A4 : st M1 ++ st T3 = st M2 := by rw [st_add, hM2]
            have s32 : K32.size = 1 := by rw [unhide x32, st_size]; rfl
            have y1 : ¬ (9223372036854775807 < (st A).size + K32.size) := by rw [st_size]; omega
            have y2 : ¬ (9223372036854775807 < (st T1).size + (st B).size) := by rw [st_size, st_size]; omega
            have y3 : ¬ (9223372036854775807 < (st T2).size + K32.size) := by rw [st_size]; omega
            have y4 : ¬ (9223372036854775807 < (st M1).size + (st T3).size) := by rw [st_size, st_size]; omega
            have EM2 : Hid (M2 = P ++ txP y.l (k + 1)) := hide (by
              rw [hM2, hM1, unhide HM, show txP y.l (k + 1) = txP y.l k ++ pt3 k (y.l.getD k (0, 0)) from rfl, GK]
              unfold pt3
              rw [← hX, ← hY, ← hA, ← hB, t3, t2, t1]
              simp [List.append_assoc])
            have LM2 : Hid (M2.length ≤ 900) := hide (by
              rw [unhide EM2, List.length_append]
              have := txP_len (unhide NY) (k + 1) (by omega)
              omega)
            have D1 : Hid (∀ w : World, Calls Tryd.prog 13 #[.int .i64 X] w fun e w' => e = .returned (.string (st A)) ∧ Below w.heap.size w w') := hide (fun w => by rw [hA]; exact num16S X w (by omega) (by omega))
            have D2 : Hid (∀ w : World, Calls Tryd.prog 13 #[.int .i64 Y] w fun e w' => e = .returned (.string (st B)) ∧ Below w.heap.size w w') := hide (fun w => by rw [hB]; exact num16S Y w (by omega) (by omega))
            have HB1 := hide (below_on (unhide HB) BA)
            replace hA := hide hA
            replace hB := hide hB
            by_cases k0 : k = 0
            · have AM0 : M1 = M ++ [77, 32] := by rw [hM1, k0]; rfl
              obtain ⟨KM, cM⟩ : ∃ K, ({ data := #[77, 32] } : ByteArray) = K ∧ K = st [77, 32] := ⟨_, rfl, rfl⟩
              have AM : st M ++ KM = st M1 := by rw [cM.2, st_add, AM0]
              have yM : ¬ (9223372036854775807 < (st M).size + KM.size) := by rw [cM.2, st_size, st_size]; simp; omega
              replace cM := cM.1
              clear e2 e3 r0 hX hY hc2 hkl LK GK BA HB HM t1 t2 t3 l1 l2 l3 m1 hM1 hM2 la lb r2 s32 hya AM0
              obtain rfl : k = 0 := k0
              rw [Nat.zero_mul, Nat.add_zero] at E0 E1
              go_upto_region 13 with fail
              generalize (wi.alloc (.cells #[.int .i64 X, .int .i64 Y] 46)) = w6 at *
              generalize wi.heap.size = PX at *
              refine wp_region_held_drew (S := fun w' => w'.cell? ⟨PX, 0, none⟩ = some (.int .i64 X) ∧ w'.cell? ⟨PX, 1, none⟩ = some (.int .i64 Y)) (by kernel_rfl) ⟨K0, K1x⟩ (fun hHeld => ?_)
              simp only [List.size_toArray, List.length_cons, List.length_nil, Nat.reduceAdd, Array.replicate_succ, Array.replicate_zero, List.push_toArray, List.nil_append, List.cons_append]
              refine wpAnyH_take (i := 0) (v := .string (st M1)) rfl (by kernel_rfl) (by kernel_rfl) (by kernel_rfl) (fun _ _ _ h => h) (Or.inl ⟨by rfl, by intro w hSw; (try dsimp only at hSw); go_simp⟩) hHeld ?_
              simp only [Act.put, List.setIfInBounds_toArray, List.set_cons_zero, List.set_cons_succ]
              refine wpAnyH_take (i := 1) (v := .pointer (some ⟨PX, 0, none⟩)) rfl (by kernel_rfl) (by kernel_rfl) (by kernel_rfl) (fun _ _ _ h => h) (Or.inl ⟨by rfl, by intro w hSw; (try dsimp only at hSw); go_simp⟩) hHeld ?_
              simp only [Act.put, List.setIfInBounds_toArray, List.set_cons_zero, List.set_cons_succ]
              refine wpAnyH_take (i := 2) (v := .int .i64 X) rfl (by kernel_rfl) (by kernel_rfl) (by kernel_rfl) (fun _ _ _ h => h) (Or.inl ⟨by rfl, by intro w hSw; (try dsimp only at hSw); go_simp⟩) hHeld ?_
              simp only [Act.put, List.setIfInBounds_toArray, List.set_cons_zero, List.set_cons_succ]
              refine wpAnyH_take (i := 5) (v := .pointer (some ⟨PX, 1, none⟩)) rfl (by kernel_rfl) (by kernel_rfl) (by kernel_rfl) (fun _ _ _ h => h) (Or.inl ⟨by rfl, by intro w hSw; (try dsimp only at hSw); go_simp⟩) hHeld ?_
              simp only [Act.put, List.setIfInBounds_toArray, List.set_cons_zero, List.set_cons_succ]
              refine wpAnyH_take (i := 6) (v := .int .i64 Y) rfl (by kernel_rfl) (by kernel_rfl) (by kernel_rfl) (fun _ _ _ h => h) (Or.inl ⟨by rfl, by intro w hSw; (try dsimp only at hSw); go_simp⟩) hHeld ?_
              simp only [Act.put, List.setIfInBounds_toArray, List.set_cons_zero, List.set_cons_succ]
              refine wpAnyH_ready (rs := [3]) (by kernel_rfl) (by simp) (AllReadyH.cons rfl (fun K hK => ?_) AllReadyH.nil)
              go_simp
              refine (unhide D1 _).mono ?_
              rintro e w7 ⟨rfl, hb1⟩
              have hbx := below_of_drew hb1
              replace K0 := cell_later hbx K0
              replace K1x := cell_later hbx K1x
              replace HB1 := hide (below_on (unhide HB1) hbx)
              refine hK.out _ _ ⟨K0, K1x⟩ (fun hHeld2 => ?_)
              clear hK K hb1 hbx hHeld
              have hHeld := hHeld2
              clear hHeld2
              simp only [Act.put, List.setIfInBounds_toArray, List.set_cons_zero, List.set_cons_succ]
              refine wpAnyH_take (i := 4) (v := .string (st T1)) rfl (by kernel_rfl) (by kernel_rfl) (by kernel_rfl) (fun _ _ _ h => h) (Or.inl ⟨by rfl, by intro w hSw; (try dsimp only at hSw); go_simp⟩) hHeld ?_
              simp only [Act.put, List.setIfInBounds_toArray, List.set_cons_zero, List.set_cons_succ]
              refine wpAnyH_ready (rs := [7]) (by kernel_rfl) (by simp) (AllReadyH.cons rfl (fun K hK => ?_) AllReadyH.nil)
              go_simp
              refine (unhide D2 _).mono ?_
              rintro e w8 ⟨rfl, hb1⟩
              have hbx := hb1
              replace K0 := cell_later hbx K0
              replace K1x := cell_later hbx K1x
              replace HB1 := hide (below_on (unhide HB1) hbx)
              refine hK.out _ _ ⟨K0, K1x⟩ (fun hHeld2 => ?_)
              clear hK K hb1 hbx hHeld
              have hHeld := hHeld2
              clear hHeld2
              simp only [Act.put, List.setIfInBounds_toArray, List.set_cons_zero, List.set_cons_succ]
              refine wpAnyH_take (i := 8) (v := .string (st T2)) rfl (by kernel_rfl) (by kernel_rfl) (by kernel_rfl) (fun _ _ _ h => h) (Or.inl ⟨by rfl, by intro w hSw; (try dsimp only at hSw); go_simp⟩) hHeld ?_
              simp only [List.getElem_toArray, List.getElem_cons_zero, List.getElem_cons_succ, Act.put, List.setIfInBounds_toArray, List.set_cons_zero, List.set_cons_succ]
              refine wpAnyH_take (i := 9) (v := .string (st T3)) rfl (by kernel_rfl) (by kernel_rfl) (by kernel_rfl) (fun _ _ _ h => h) (Or.inl ⟨by rfl, by intro w hSw; (try dsimp only at hSw); go_simp⟩) hHeld ?_
              simp only [List.getElem_toArray, List.getElem_cons_zero, List.getElem_cons_succ, Act.put, List.setIfInBounds_toArray, List.set_cons_zero, List.set_cons_succ]
              refine wpAnyH_take (i := 10) (v := .string (st M2)) rfl (by kernel_rfl) (by kernel_rfl) (by kernel_rfl) (fun _ _ _ h => h) (Or.inl ⟨by rfl, by intro w hSw; (try dsimp only at hSw); go_simp⟩) hHeld ?_
              simp only [List.getElem_toArray, List.getElem_cons_zero, List.getElem_cons_succ, Act.put, List.setIfInBounds_toArray, List.set_cons_zero, List.set_cons_succ]
              refine wpAnyH_take (i := 11) (v := .string (st M2)) rfl (by kernel_rfl) (by kernel_rfl) (by kernel_rfl) (fun _ _ _ h => h) (Or.inl ⟨by rfl, by intro w hSw; (try dsimp only at hSw); go_simp⟩) hHeld ?_
              simp only [List.getElem_toArray, List.getElem_cons_zero, List.getElem_cons_succ, Act.put, List.setIfInBounds_toArray, List.set_cons_zero, List.set_cons_succ]
              refine wpAnyH_done (by kernel_rfl) ?_ _
              clear hHeld
              go_wp2
              go_roundw
              case rel => exact ⟨0 + 1, M2, by omega, by go_num, rfl, EM2, unhide LM2, HB1⟩
              case measure => simp [intOf]; omega
            · have d1 : ((k : Int) == 0) = false := by simpa using k0
              have d1' : ¬ (k : Int) = 0 := by omega
              obtain ⟨KM, cM⟩ : ∃ K, ({ data := #[76, 32] } : ByteArray) = K ∧ K = st [76, 32] := ⟨_, rfl, rfl⟩
              have AM : st M ++ KM = st M1 := by rw [cM.2, st_add, hM1]; unfold ltr; rw [if_neg k0]; rfl
              have yM : ¬ (9223372036854775807 < (st M).size + KM.size) := by rw [cM.2, st_size, st_size]; simp; omega
              replace cM := cM.1
              clear e2 e3 r0 hX hY hc2 hkl LK GK BA HB HM t1 t2 t3 l1 l2 l3 m1 hM1 hM2 la lb k0 r2 s32 hya
              go_upto_region 13 with fail
              generalize (wi.alloc (.cells #[.int .i64 X, .int .i64 Y] 46)) = w6 at *
              generalize wi.heap.size = PX at *
              refine wp_region_held_drew (S := fun w' => w'.cell? ⟨PX, 0, none⟩ = some (.int .i64 X) ∧ w'.cell? ⟨PX, 1, none⟩ = some (.int .i64 Y)) (by kernel_rfl) ⟨K0, K1x⟩ (fun hHeld => ?_)
              simp only [List.size_toArray, List.length_cons, List.length_nil, Nat.reduceAdd, Array.replicate_succ, Array.replicate_zero, List.push_toArray, List.nil_append, List.cons_append]
              refine wpAnyH_take (i := 0) (v := .string (st M1)) rfl (by kernel_rfl) (by kernel_rfl) (by kernel_rfl) (fun _ _ _ h => h) (Or.inl ⟨by rfl, by intro w hSw; (try dsimp only at hSw); go_simp⟩) hHeld ?_
              simp only [Act.put, List.setIfInBounds_toArray, List.set_cons_zero, List.set_cons_succ]
              refine wpAnyH_take (i := 1) (v := .pointer (some ⟨PX, 0, none⟩)) rfl (by kernel_rfl) (by kernel_rfl) (by kernel_rfl) (fun _ _ _ h => h) (Or.inl ⟨by rfl, by intro w hSw; (try dsimp only at hSw); go_simp⟩) hHeld ?_
              simp only [Act.put, List.setIfInBounds_toArray, List.set_cons_zero, List.set_cons_succ]
              refine wpAnyH_take (i := 2) (v := .int .i64 X) rfl (by kernel_rfl) (by kernel_rfl) (by kernel_rfl) (fun _ _ _ h => h) (Or.inl ⟨by rfl, by intro w hSw; (try dsimp only at hSw); go_simp⟩) hHeld ?_
              simp only [Act.put, List.setIfInBounds_toArray, List.set_cons_zero, List.set_cons_succ]
              refine wpAnyH_take (i := 5) (v := .pointer (some ⟨PX, 1, none⟩)) rfl (by kernel_rfl) (by kernel_rfl) (by kernel_rfl) (fun _ _ _ h => h) (Or.inl ⟨by rfl, by intro w hSw; (try dsimp only at hSw); go_simp⟩) hHeld ?_
              simp only [Act.put, List.setIfInBounds_toArray, List.set_cons_zero, List.set_cons_succ]
              refine wpAnyH_take (i := 6) (v := .int .i64 Y) rfl (by kernel_rfl) (by kernel_rfl) (by kernel_rfl) (fun _ _ _ h => h) (Or.inl ⟨by rfl, by intro w hSw; (try dsimp only at hSw); go_simp⟩) hHeld ?_
              simp only [Act.put, List.setIfInBounds_toArray, List.set_cons_zero, List.set_cons_succ]
              refine wpAnyH_ready (rs := [3]) (by kernel_rfl) (by simp) (AllReadyH.cons rfl (fun K hK => ?_) AllReadyH.nil)
              go_simp
              refine (unhide D1 _).mono ?_
              rintro e w7 ⟨rfl, hb1⟩
              have hbx := below_of_drew hb1
              replace K0 := cell_later hbx K0
              replace K1x := cell_later hbx K1x
              replace HB1 := hide (below_on (unhide HB1) hbx)
              refine hK.out _ _ ⟨K0, K1x⟩ (fun hHeld2 => ?_)
              clear hK K hb1 hbx hHeld
              have hHeld := hHeld2
              clear hHeld2
              simp only [Act.put, List.setIfInBounds_toArray, List.set_cons_zero, List.set_cons_succ]
              refine wpAnyH_take (i := 4) (v := .string (st T1)) rfl (by kernel_rfl) (by kernel_rfl) (by kernel_rfl) (fun _ _ _ h => h) (Or.inl ⟨by rfl, by intro w hSw; (try dsimp only at hSw); go_simp⟩) hHeld ?_
              simp only [Act.put, List.setIfInBounds_toArray, List.set_cons_zero, List.set_cons_succ]
              refine wpAnyH_ready (rs := [7]) (by kernel_rfl) (by simp) (AllReadyH.cons rfl (fun K hK => ?_) AllReadyH.nil)
              go_simp
              refine (unhide D2 _).mono ?_
              rintro e w8 ⟨rfl, hb1⟩
              have hbx := hb1
              replace K0 := cell_later hbx K0
              replace K1x := cell_later hbx K1x
              replace HB1 := hide (below_on (unhide HB1) hbx)
              refine hK.out _ _ ⟨K0, K1x⟩ (fun hHeld2 => ?_)
              clear hK K hb1 hbx hHeld
              have hHeld := hHeld2
              clear hHeld2
              simp only [Act.put, List.setIfInBounds_toArray, List.set_cons_zero, List.set_cons_succ]
              refine wpAnyH_take (i := 8) (v := .string (st T2)) rfl (by kernel_rfl) (by kernel_rfl) (by kernel_rfl) (fun _ _ _ h => h) (Or.inl ⟨by rfl, by intro w hSw; (try dsimp only at hSw); go_simp⟩) hHeld ?_
              simp only [List.getElem_toArray, List.getElem_cons_zero, List.getElem_cons_succ, Act.put, List.setIfInBounds_toArray, List.set_cons_zero, List.set_cons_succ]
              refine wpAnyH_take (i := 9) (v := .string (st T3)) rfl (by kernel_rfl) (by kernel_rfl) (by kernel_rfl) (fun _ _ _ h => h) (Or.inl ⟨by rfl, by intro w hSw; (try dsimp only at hSw); go_simp⟩) hHeld ?_
              simp only [List.getElem_toArray, List.getElem_cons_zero, List.getElem_cons_succ, Act.put, List.setIfInBounds_toArray, List.set_cons_zero, List.set_cons_succ]
              refine wpAnyH_take (i := 10) (v := .string (st M2)) rfl (by kernel_rfl) (by kernel_rfl) (by kernel_rfl) (fun _ _ _ h => h) (Or.inl ⟨by rfl, by intro w hSw; (try dsimp only at hSw); go_simp⟩) hHeld ?_
              simp only [List.getElem_toArray, List.getElem_cons_zero, List.getElem_cons_succ, Act.put, List.setIfInBounds_toArray, List.set_cons_zero, List.set_cons_succ]
              refine wpAnyH_take (i := 11) (v := .string (st M2)) rfl (by kernel_rfl) (by kernel_rfl) (by kernel_rfl) (fun _ _ _ h => h) (Or.inl ⟨by rfl, by intro w hSw; (try dsimp only at hSw); go_simp⟩) hHeld ?_
              simp only [List.getElem_toArray, List.getElem_cons_zero, List.getElem_cons_succ, Act.put, List.setIfInBounds_toArray, List.set_cons_zero, List.set_cons_succ]
              refine wpAnyH_done (by kernel_rfl) ?_ _
              clear hHeld
              go_wp2
              go_roundw
              case rel => exact ⟨k + 1, M2, by omega, by go_num, rfl, EM2, unhide LM2, HB1⟩
              case measure => simp [intOf]; omega
          · obtain rfl : k = y.n := by omega
            obtain ⟨M9, hM9⟩ : ∃ Z, Z = M ++ [90] := ⟨_, rfl⟩
            have A9 : st M ++ K90 = st M9 := by rw [unhide x90, st_add, hM9]
            have y9 : ¬ (9223372036854775807 < (st M).size + K90.size) := by rw [unhide x90, st_size, st_size]; simp; omega
            have EM9 : Hid (M9 = txW (dW rs) (i + 1)) := hide (by rw [unhide EP, hM9, unhide HM])
            have LM9 : Hid (M9.length ≤ 700) := hide (by
              rw [unhide EM9]
              have := txW_len (unhide GN) (i + 1) (by rw [unhide HN]; omega)
              omega)
            clear hM9 EP
            go_wp2
            go_roundw
            case rel => exact ⟨i + 1, M9, by omega, by go_num, rfl, EM9, unhide LM9, HB⟩
            case measure => simp [intOf]; omega
    · obtain rfl : i = n := by omega
      rw [unhide HL]
      go_wp2
      go_ret
      exact ⟨rfl, unhide HB⟩
end Go.Proofs.YtoffondgdnmhkaaDoorRRR

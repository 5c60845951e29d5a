/- Chapter 9 of the program: boxes of ways, sums of rounds. No condition beyond those typed. Written by mkib9.py. -/
import Derived.Test.YtgphhlhpoffabaaIm9
import Derived.Test.YtgphhlhpoffabaaBox9
namespace Go.Proofs.Ytgphhlhpoffabaa
open Go.RowKit
set_option linter.unusedVariables false
set_option maxRecDepth 100000
set_option linter.unusedSimpArgs false

set_option maxHeartbeats 16000000 in
theorem boxI9 (a : Option Addr) (n c : Nat) (l : List (Int × Int)) (w : World) (h : SlP w a l) (hn : l.length = n) (h0 : 3 ≤ n) (h1 : n ≤ 1048576) (hcap : n ≤ c) :
    Calls Try.prog 63 #[.slice a n c] w fun e w' => e = .returned (.tuple #[.agg #[.int .i64 (loS l l.length).1, .int .i64 (loS l l.length).2], .agg #[.int .i64 (hiS l l.length).1, .int .i64 (hiS l l.length).2]]) ∧ Below w.heap.size w w' := by
  have HN := hide hn
  rcases h with e | ⟨b, off, rfl, hb, hc⟩
  · rw [e] at hn; simp at hn; omega
  have e0 := hc 0 (by omega)
  rw [← getD_gt (by omega)] at e0
  have E0 : w.cell? ⟨b, off, none⟩ = some (.int .i64 (l.getD 0 (0, 0)).1) := by simpa using e0.1
  have E1 : w.cell? ⟨b, off + 1, none⟩ = some (.int .i64 (l.getD 0 (0, 0)).2) := by simpa using e0.2
  have HC := hide hc
  have nn : (0 : Int) < (n : Int) := by omega
  have nn2 : 0 < n := by omega
  have S0 : Hid (loS l 1 = l.getD 0 (0, 0) ∧ hiS l 1 = l.getD 0 (0, 0)) := hide ⟨by simp [loS], by simp [hiS]⟩
  clear hc e0 hn
  generalize l.getD 0 (0, 0) = x0 at *
  have B2 : Hid (Below w.heap.size w ((w.alloc (.cells #[.int .i64 0, .int .i64 0] 25)).alloc (.cells #[.int .i64 0, .int .i64 0] 25))) := hide (((Below.refl _ _).alloc (Nat.le_refl _) _).alloc (by simp) _)
  have z1 : (w.alloc (.cells #[.int .i64 0, .int .i64 0] 25)).heap.size = w.heap.size + 1 := by simp
  have R0 : Hid (BxP ((w.alloc (.cells #[.int .i64 0, .int .i64 0] 25)).alloc (.cells #[.int .i64 0, .int .i64 0] 25)) w.heap.size 0 0) := hide (BxP.new.later ((Below.refl _ _).alloc (Nat.le_refl _) _))
  have R1 : Hid (BxP ((w.alloc (.cells #[.int .i64 0, .int .i64 0] 25)).alloc (.cells #[.int .i64 0, .int .i64 0] 25)) (w.heap.size + 1) 0 0) := hide (z1 ▸ BxP.new)
  have z2 : w.heap.size + 1 < ((w.alloc (.cells #[.int .i64 0, .int .i64 0] 25)).alloc (.cells #[.int .i64 0, .int .i64 0] 25)).heap.size := by simp
  replace E0 := ca_other (ob := (.cells #[.int .i64 0, .int .i64 0] 25)) (ca_other (ob := (.cells #[.int .i64 0, .int .i64 0] 25)) E0)
  replace E1 := ca_other (ob := (.cells #[.int .i64 0, .int .i64 0] 25)) (ca_other (ob := (.cells #[.int .i64 0, .int .i64 0] 25)) E1)
  clear z1
  go_enter Try.func63, Try.ntmps63
  go_upto_region 1 with fail
  generalize ((w.alloc (.cells #[.int .i64 0, .int .i64 0] 25)).alloc (.cells #[.int .i64 0, .int .i64 0] 25)) = w2 at *
  refine wp_region_held_drew (S := fun w' => w'.cell? ⟨b, off, none⟩ = some (.int .i64 x0.1) ∧ w'.cell? ⟨b, off + 1, none⟩ = some (.int .i64 x0.2)) (by kernel_rfl) ⟨E0, E1⟩ (fun hHeld => ?_)
  simp only [List.size_toArray, List.length_cons, List.length_nil, Nat.reduceAdd, Array.replicate_succ, Array.replicate_zero, List.push_toArray, List.nil_append, List.cons_append]
  refine wpAnyH_take (i := 0) (v := .slice (some ⟨b, off, none⟩) n c) rfl (by kernel_rfl) (by kernel_rfl) (by kernel_rfl) (fun _ _ _ h => h) (Or.inl ⟨by rfl, by intro w hSw; (try dsimp only at hSw); go_simp⟩) hHeld ?_
  simp only [Act.put, List.setIfInBounds_toArray, List.set_cons_zero, List.set_cons_succ]
  refine wpAnyH_take (i := 1) (v := .pointer (some ⟨b, off, none⟩)) rfl (by kernel_rfl) (by kernel_rfl) (by kernel_rfl) (fun _ _ _ h => h) (Or.inl ⟨by rfl, by intro w hSw; (try dsimp only at hSw); go_simp⟩) hHeld ?_
  simp only [Act.put, List.setIfInBounds_toArray, List.set_cons_zero, List.set_cons_succ]
  refine wpAnyH_take (i := 2) (v := .agg #[.int .i64 x0.1, .int .i64 x0.2]) rfl (by kernel_rfl) (by kernel_rfl) (by kernel_rfl) (fun _ _ _ h => h) (Or.inl ⟨by rfl, by intro w hSw; (try dsimp only at hSw); go_simp⟩) hHeld ?_
  simp only [Act.put, List.setIfInBounds_toArray, List.set_cons_zero, List.set_cons_succ]
  refine wpAnyH_take (i := 3) (v := .slice (some ⟨b, off, none⟩) n c) rfl (by kernel_rfl) (by kernel_rfl) (by kernel_rfl) (fun _ _ _ h => h) (Or.inl ⟨by rfl, by intro w hSw; (try dsimp only at hSw); go_simp⟩) hHeld ?_
  simp only [Act.put, List.setIfInBounds_toArray, List.set_cons_zero, List.set_cons_succ]
  refine wpAnyH_take (i := 4) (v := .pointer (some ⟨b, off, none⟩)) rfl (by kernel_rfl) (by kernel_rfl) (by kernel_rfl) (fun _ _ _ h => h) (Or.inl ⟨by rfl, by intro w hSw; (try dsimp only at hSw); go_simp⟩) hHeld ?_
  simp only [Act.put, List.setIfInBounds_toArray, List.set_cons_zero, List.set_cons_succ]
  refine wpAnyH_take (i := 5) (v := .agg #[.int .i64 x0.1, .int .i64 x0.2]) rfl (by kernel_rfl) (by kernel_rfl) (by kernel_rfl) (fun _ _ _ h => h) (Or.inl ⟨by rfl, by intro w hSw; (try dsimp only at hSw); go_simp⟩) hHeld ?_
  simp only [Act.put, List.setIfInBounds_toArray, List.set_cons_zero, List.set_cons_succ]
  refine wpAnyH_ready (rs := [6, 7]) (by kernel_rfl) (by simp) (AllReadyH.cons rfl (fun K hK => ?_) (AllReadyH.cons rfl (fun K hK => ?_) AllReadyH.nil))
  · go_simp
    refine hK.out _ _ ⟨cdP (ca_other E0), cdP (ca_other E1)⟩ (fun hHeld2 => ?_)
    clear hK K hHeld
    have hHeld := hHeld2
    clear hHeld2
    simp only [Act.put, List.setIfInBounds_toArray, List.set_cons_zero, List.set_cons_succ]
    refine wpAnyH_ready (rs := [7]) (by kernel_rfl) (by simp) (AllReadyH.cons rfl (fun K hK => ?_) AllReadyH.nil)
    go_simp
    refine hK.out _ _ ⟨cdP (ca_other (ca_other E0)), cdP (ca_other (ca_other E1))⟩ (fun hHeld2 => ?_)
    clear hK K hHeld
    have hHeld := hHeld2
    clear hHeld2
    simp only [Act.put, List.setIfInBounds_toArray, List.set_cons_zero, List.set_cons_succ]
    have zz : (w2.alloc (.cells #[.int .i64 0, .int .i64 0] 25)).heap.size = w2.heap.size + 1 := by simp
    have al1 : Below w2.heap.size w2 ((w2.alloc (.cells #[.int .i64 0, .int .i64 0] 25)).alloc (.cells #[.int .i64 0, .int .i64 0] 25)).drew := (((Below.refl _ _).alloc (Nat.le_refl _) _).alloc (by simp) _).drew
    have LO : Hid (BxP ((w2.alloc (.cells #[.int .i64 0, .int .i64 0] 25)).alloc (.cells #[.int .i64 0, .int .i64 0] 25)).drew w2.heap.size 0 0) := hide ((BxP.new.later ((Below.refl _ _).alloc (Nat.le_refl _) _)).later (Below.refl _ _).drew)
    have HI : Hid (BxP ((w2.alloc (.cells #[.int .i64 0, .int .i64 0] 25)).alloc (.cells #[.int .i64 0, .int .i64 0] 25)).drew (w2.heap.size + 1) 0 0) := hide ((zz ▸ BxP.new (w := w2.alloc (.cells #[.int .i64 0, .int .i64 0] 25))).later (Below.refl _ _).drew)
    replace R0 := hide ((unhide R0).later al1)
    replace R1 := hide ((unhide R1).later al1)
    replace B2 := hide (below_on (unhide B2) al1)
    replace E0 := cell_later al1 E0
    replace E1 := cell_later al1 E1
    have nbA : b ≠ w2.heap.size := by have := (unhide B2).size; omega
    have nbB : b ≠ w2.heap.size + 1 := by omega
    have nAB : w2.heap.size ≠ w2.heap.size + 1 := by omega
    have gA : w.heap.size + 1 < w2.heap.size := z2
    have gB : w.heap.size + 1 < w2.heap.size + 1 := by omega
    clear zz al1 z2
    generalize ((w2.alloc (.cells #[.int .i64 0, .int .i64 0] 25)).alloc (.cells #[.int .i64 0, .int .i64 0] 25)).drew = w3 at *
    generalize w2.heap.size + 1 = GH at *
    generalize w2.heap.size = GL at *
    have bL : b ≠ GL := by assumption
    have bH : b ≠ GH := by assumption
    have nLH : GL ≠ GH := by first | exact nAB | exact nAB.symm
    have gL : w.heap.size + 1 < GL := by assumption
    have gH : w.heap.size + 1 < GH := by assumption
    clear nAB nbA nbB gA gB
    have l0 := (unhide LO).c0
    have l1 := (unhide LO).c1
    have lf := (unhide LO).fz
    have h0' := (unhide HI).c0
    have h1' := (unhide HI).c1
    have hf := (unhide HI).fz
    refine wpAnyH_ready (rs := [8]) (by kernel_rfl) (by simp) (AllReadyH.cons rfl (fun K hK => ?_) AllReadyH.nil)
    go_simp
    refine hK.out _ _ ⟨cs_other (cs_other E0 bL) bL, cs_other (cs_other E1 bL) bL⟩ (fun hHeld2 => ?_)
    clear hK K hHeld
    have hHeld := hHeld2
    clear hHeld2
    simp only [Act.put, List.setIfInBounds_toArray, List.set_cons_zero, List.set_cons_succ]
    replace R0 := hide (show BxP ((w3.setCell ⟨GL, 0, none⟩ (.int .i64 x0.1)).setCell ⟨GL, 1, none⟩ (.int .i64 x0.2)) _ _ _ from ((unhide R0).other (by omega)).other (by omega))
    replace R1 := hide (show BxP ((w3.setCell ⟨GL, 0, none⟩ (.int .i64 x0.1)).setCell ⟨GL, 1, none⟩ (.int .i64 x0.2)) _ _ _ from ((unhide R1).other (by omega)).other (by omega))
    replace LO := hide (show BxP ((w3.setCell ⟨GL, 0, none⟩ (.int .i64 x0.1)).setCell ⟨GL, 1, none⟩ (.int .i64 x0.2)) _ _ _ from (unhide LO).set0.set1)
    replace HI := hide (show BxP ((w3.setCell ⟨GL, 0, none⟩ (.int .i64 x0.1)).setCell ⟨GL, 1, none⟩ (.int .i64 x0.2)) _ _ _ from ((unhide HI).other (by omega)).other (by omega))
    replace B2 := hide (show Below w.heap.size w ((w3.setCell ⟨GL, 0, none⟩ (.int .i64 x0.1)).setCell ⟨GL, 1, none⟩ (.int .i64 x0.2)) from bel_set (bel_set (unhide B2) (by omega) (unhide B2).size) (by omega) (by have := (unhide B2).size; simp; exact this))
    replace E0 : ((w3.setCell ⟨GL, 0, none⟩ (.int .i64 x0.1)).setCell ⟨GL, 1, none⟩ (.int .i64 x0.2)).cell? ⟨b, off, none⟩ = _ := cs_other (cs_other E0 bL) bL
    replace E1 : ((w3.setCell ⟨GL, 0, none⟩ (.int .i64 x0.1)).setCell ⟨GL, 1, none⟩ (.int .i64 x0.2)).cell? ⟨b, off + 1, none⟩ = _ := cs_other (cs_other E1 bL) bL
    clear l0 l1 lf h0' h1' hf
    generalize ((w3.setCell ⟨GL, 0, none⟩ (.int .i64 x0.1)).setCell ⟨GL, 1, none⟩ (.int .i64 x0.2)) = w4 at *
    have h0' := (unhide HI).c0
    have h1' := (unhide HI).c1
    have hf := (unhide HI).fz
    refine wpAnyH_ready (rs := [9]) (by kernel_rfl) (by simp) (AllReadyH.cons rfl (fun K hK => ?_) AllReadyH.nil)
    go_simp
    refine hK.out _ _ ⟨cs_other (cs_other E0 bH) bH, cs_other (cs_other E1 bH) bH⟩ (fun hHeld2 => ?_)
    clear hK K hHeld
    have hHeld := hHeld2
    clear hHeld2
    simp only [Act.put, List.setIfInBounds_toArray, List.set_cons_zero, List.set_cons_succ]
    replace R0 := hide (show BxP ((w4.setCell ⟨GH, 0, none⟩ (.int .i64 x0.1)).setCell ⟨GH, 1, none⟩ (.int .i64 x0.2)) _ _ _ from ((unhide R0).other (by omega)).other (by omega))
    replace R1 := hide (show BxP ((w4.setCell ⟨GH, 0, none⟩ (.int .i64 x0.1)).setCell ⟨GH, 1, none⟩ (.int .i64 x0.2)) _ _ _ from ((unhide R1).other (by omega)).other (by omega))
    replace HI := hide (show BxP ((w4.setCell ⟨GH, 0, none⟩ (.int .i64 x0.1)).setCell ⟨GH, 1, none⟩ (.int .i64 x0.2)) _ _ _ from (unhide HI).set0.set1)
    replace LO := hide (show BxP ((w4.setCell ⟨GH, 0, none⟩ (.int .i64 x0.1)).setCell ⟨GH, 1, none⟩ (.int .i64 x0.2)) _ _ _ from ((unhide LO).other (by omega)).other (by omega))
    replace B2 := hide (show Below w.heap.size w ((w4.setCell ⟨GH, 0, none⟩ (.int .i64 x0.1)).setCell ⟨GH, 1, none⟩ (.int .i64 x0.2)) from bel_set (bel_set (unhide B2) (by omega) (unhide B2).size) (by omega) (by have := (unhide B2).size; simp; exact this))
    clear h0' h1' hf E0 E1 bL bH
    generalize ((w4.setCell ⟨GH, 0, none⟩ (.int .i64 x0.1)).setCell ⟨GH, 1, none⟩ (.int .i64 x0.2)) = w5 at *
    refine wpAnyH_done (by kernel_rfl) ?_ _
    clear hHeld
    have sl1 : (1 : Int) ≤ (n : Int) := by omega
    have sl2 : (n : Int) ≤ (c : Int) := by omega
    have sl3 : ¬ (c = 1) := by omega
    have sl4 : (c == 1) = false := by simp; omega
    have sl5 : ¬ (c - 1 = 0) := by omega
    have sl6 : ¬ ((c : Int) = 1) := by omega
    go_wp2
    go_loopw [17] (fun iv wr => ∃ i : Nat, i + 1 ≤ n ∧ iv = .int .i64 i ∧ Hid (BxP wr w.heap.size 0 0) ∧ Hid (BxP wr (w.heap.size + 1) 0 0) ∧ Hid (BxP wr GL (loS l (i + 1)).1 (loS l (i + 1)).2) ∧ Hid (BxP wr GH (hiS l (i + 1)).1 (hiS l (i + 1)).2) ∧ Hid (Below w.heap.size w wr)) (fun iv _ => n - (intOf iv).toNat)
    case atStart => exact ⟨0, by omega, rfl, R0, R1, by rw [(unhide S0).1]; exact LO, by rw [(unhide S0).2]; exact HI, B2⟩
    case round =>
      clear R0 R1 LO HI B2 S0
      obtain ⟨i, hi, rfl, R0, R1, LO, HI, HB⟩ := hrel
      by_cases hlt : i + 1 < n
      · have hlt' : (i : Int) < ((n - 1 : Nat) : Int) := by omega
        have e0 := unhide HC (i + 1) (by rw [unhide HN]; exact hlt)
        rw [← getD_gt (by rw [unhide HN]; exact hlt)] at e0
        have EL : loS l (i + 1 + 1) = (min (loS l (i + 1)).1 (l.getD (i + 1) (0, 0)).1, min (loS l (i + 1)).2 (l.getD (i + 1) (0, 0)).2) := rfl
        have EH : hiS l (i + 1 + 1) = (max (hiS l (i + 1)).1 (l.getD (i + 1) (0, 0)).1, max (hiS l (i + 1)).2 (l.getD (i + 1) (0, 0)).2) := rfl
        have HEL := hide EL
        have HEH := hide EH
        clear EL EH
        generalize loS l (i + 1) = u at *
        generalize hiS l (i + 1) = v at *
        generalize l.getD (i + 1) (0, 0) = x at *
        have E0 : wr.cell? ⟨b, off + 2 + i * 2, none⟩ = some (.int .i64 x.1) := by have := ((unhide HB).cell (p := ⟨b, off + (i + 1) * 2, none⟩) hb).trans (e0.1); rw [show off + 2 + i * 2 = off + (i + 1) * 2 from by omega]; exact this
        have E1 : wr.cell? ⟨b, off + 2 + i * 2 + 1, none⟩ = some (.int .i64 x.2) := by have := ((unhide HB).cell (p := ⟨b, off + (i + 1) * 2 + 1, none⟩) hb).trans (e0.2); rw [show off + 2 + i * 2 + 1 = off + (i + 1) * 2 + 1 from by omega]; exact this
        have al : Below wr.heap.size wr (wr.alloc (.cells #[.int .i64 x.1, .int .i64 x.2] 25)) := (Below.refl _ _).alloc (Nat.le_refl _) _
        have KX : Hid (BxP (wr.alloc (.cells #[.int .i64 x.1, .int .i64 x.2] 25)) wr.heap.size x.1 x.2) := hide BxP.new
        have ltL := (unhide LO).lt
        have ltH := (unhide HI).lt
        replace R0 := hide ((unhide R0).later al)
        replace R1 := hide ((unhide R1).later al)
        replace LO := hide ((unhide LO).later al)
        replace HI := hide ((unhide HI).later al)
        replace HB := hide (below_on (unhide HB) al)
        clear e0 al
        go_upto_region 5 with fail
        clear E0 E1
        generalize wr.alloc (.cells #[.int .i64 x.1, .int .i64 x.2] 25) = w6 at *
        have x0 := (unhide KX).c0
        have x1 := (unhide KX).c1
        have l0 := (unhide LO).c0
        have l1 := (unhide LO).c1
        have lf := (unhide LO).fz
        have h0' := (unhide HI).c0
        have h1' := (unhide HI).c1
        have hf := (unhide HI).fz
        have n1 : wr.heap.size ≠ GL := by omega
        have n2 : wr.heap.size ≠ GH := by omega
        have m1 : (if x.1 < u.1 then x.1 else u.1) = min u.1 x.1 := by split <;> omega
        have m2 : (if x.2 < u.2 then x.2 else u.2) = min u.2 x.2 := by split <;> omega
        have m3 : (if v.1 < x.1 then x.1 else v.1) = max v.1 x.1 := by split <;> omega
        have m4 : (if v.2 < x.2 then x.2 else v.2) = max v.2 x.2 := by split <;> omega
        have HM := hide (And.intro m1 (And.intro m2 (And.intro m3 m4)))
        have sw : w.heap.size ≤ w6.heap.size := (unhide HB).size
        clear m1 m2 m3 m4
        go_wp2
        go_roundw
        case rel => exact ⟨i + 1, by omega, by go_num, hide (((((unhide R0).other (by omega)).other (by omega)).other (by omega)).other (by omega)), hide (((((unhide R1).other (by omega)).other (by omega)).other (by omega)).other (by omega)), by rw [unhide HEL, ← (unhide HM).1, ← (unhide HM).2.1]; exact hide (((((unhide LO).set0).set1).other (by omega)).other (by omega)), by rw [unhide HEH, ← (unhide HM).2.2.1, ← (unhide HM).2.2.2]; exact hide (((((unhide HI).other (by omega)).other (by omega)).set0).set1), hide (bel_set (bel_set (bel_set (bel_set (unhide HB) (by omega) (by omega)) (by omega) (by simp; omega)) (by omega) (by simp; omega)) (by omega) (by simp; omega))⟩
        case measure => simp [intOf]; omega
      · have hin : i + 1 = n := by omega
        have EN : Hid (loS l (i + 1) = loS l l.length ∧ hiS l (i + 1) = hiS l l.length) := hide (by rw [unhide HN, hin]; exact ⟨rfl, rfl⟩)
        have hge : ¬ ((i : Int) < ((n - 1 : Nat) : Int)) := by omega
        clear hin
        have sw : w.heap.size + 1 < wr.heap.size := (unhide R1).lt
        have l0 := (unhide LO).c0
        have l1 := (unhide LO).c1
        have h0' := (unhide HI).c0
        have h1' := (unhide HI).c1
        have a0 := (unhide R0).c0
        have a1 := (unhide R0).c1
        have af := (unhide R0).fz
        have b0 := (unhide R1).c0
        have b1 := (unhide R1).c1
        have bf := (unhide R1).fz
        have G0 := hide (bel_set (v := .int .i64 (hiS l (i + 1)).2) (i := 1) (bel_set (v := .int .i64 (hiS l (i + 1)).1) (i := 0) (bel_set (v := .int .i64 (loS l (i + 1)).2) (i := 1) (bel_set (v := .int .i64 (loS l (i + 1)).1) (i := 0) (unhide HB).drew (Nat.le_refl w.heap.size) (by simp; omega)) (Nat.le_refl _) (by simp; omega)) (show w.heap.size ≤ w.heap.size + 1 by omega) (by simp; omega)) (show w.heap.size ≤ w.heap.size + 1 by omega) (by simp; omega))
        have gl1 : GL ≠ w.heap.size := by omega
        have gl2 : GL ≠ w.heap.size + 1 := by omega
        have gh1 : GH ≠ w.heap.size := by omega
        have gh2 : GH ≠ w.heap.size + 1 := by omega
        rw [(unhide EN).1, (unhide EN).2] at G0
        rw [(unhide EN).1] at l0 l1
        rw [(unhide EN).2] at h0' h1'
        clear R0 R1 LO HI HB
        generalize hu : loS l l.length = u at *
        generalize hv : hiS l l.length = v at *
        have HU := hide (And.intro hu hv)
        clear hu hv
        go_upto_region 8 with fail
        go_region
        go_wp2_with fail
        refine bodyPost_ret (v := .tuple #[.agg #[.int .i64 u.1, .int .i64 u.2], .agg #[.int .i64 v.1, .int .i64 v.2]]) (by simp [results, Try.results63, go_sem, a0, a1, b0, b1]) rfl ?_
        exact ⟨by rw [(unhide HU).1, (unhide HU).2], unhide G0⟩
  · go_simp
    refine hK.out _ _ ⟨cdP (ca_other E0), cdP (ca_other E1)⟩ (fun hHeld2 => ?_)
    clear hK K hHeld
    have hHeld := hHeld2
    clear hHeld2
    simp only [Act.put, List.setIfInBounds_toArray, List.set_cons_zero, List.set_cons_succ]
    refine wpAnyH_ready (rs := [6]) (by kernel_rfl) (by simp) (AllReadyH.cons rfl (fun K hK => ?_) AllReadyH.nil)
    go_simp
    refine hK.out _ _ ⟨cdP (ca_other (ca_other E0)), cdP (ca_other (ca_other E1))⟩ (fun hHeld2 => ?_)
    clear hK K hHeld
    have hHeld := hHeld2
    clear hHeld2
    simp only [Act.put, List.setIfInBounds_toArray, List.set_cons_zero, List.set_cons_succ]
    have zz : (w2.alloc (.cells #[.int .i64 0, .int .i64 0] 25)).heap.size = w2.heap.size + 1 := by simp
    have al1 : Below w2.heap.size w2 ((w2.alloc (.cells #[.int .i64 0, .int .i64 0] 25)).alloc (.cells #[.int .i64 0, .int .i64 0] 25)).drew := (((Below.refl _ _).alloc (Nat.le_refl _) _).alloc (by simp) _).drew
    have HI : Hid (BxP ((w2.alloc (.cells #[.int .i64 0, .int .i64 0] 25)).alloc (.cells #[.int .i64 0, .int .i64 0] 25)).drew w2.heap.size 0 0) := hide ((BxP.new.later ((Below.refl _ _).alloc (Nat.le_refl _) _)).later (Below.refl _ _).drew)
    have LO : Hid (BxP ((w2.alloc (.cells #[.int .i64 0, .int .i64 0] 25)).alloc (.cells #[.int .i64 0, .int .i64 0] 25)).drew (w2.heap.size + 1) 0 0) := hide ((zz ▸ BxP.new (w := w2.alloc (.cells #[.int .i64 0, .int .i64 0] 25))).later (Below.refl _ _).drew)
    replace R0 := hide ((unhide R0).later al1)
    replace R1 := hide ((unhide R1).later al1)
    replace B2 := hide (below_on (unhide B2) al1)
    replace E0 := cell_later al1 E0
    replace E1 := cell_later al1 E1
    have nbA : b ≠ w2.heap.size := by have := (unhide B2).size; omega
    have nbB : b ≠ w2.heap.size + 1 := by omega
    have nAB : w2.heap.size ≠ w2.heap.size + 1 := by omega
    have gA : w.heap.size + 1 < w2.heap.size := z2
    have gB : w.heap.size + 1 < w2.heap.size + 1 := by omega
    clear zz al1 z2
    generalize ((w2.alloc (.cells #[.int .i64 0, .int .i64 0] 25)).alloc (.cells #[.int .i64 0, .int .i64 0] 25)).drew = w3 at *
    generalize w2.heap.size + 1 = GL at *
    generalize w2.heap.size = GH at *
    have bL : b ≠ GL := by assumption
    have bH : b ≠ GH := by assumption
    have nLH : GL ≠ GH := by first | exact nAB | exact nAB.symm
    have gL : w.heap.size + 1 < GL := by assumption
    have gH : w.heap.size + 1 < GH := by assumption
    clear nAB nbA nbB gA gB
    have l0 := (unhide LO).c0
    have l1 := (unhide LO).c1
    have lf := (unhide LO).fz
    have h0' := (unhide HI).c0
    have h1' := (unhide HI).c1
    have hf := (unhide HI).fz
    refine wpAnyH_ready (rs := [8]) (by kernel_rfl) (by simp) (AllReadyH.cons rfl (fun K hK => ?_) AllReadyH.nil)
    go_simp
    refine hK.out _ _ ⟨cs_other (cs_other E0 bL) bL, cs_other (cs_other E1 bL) bL⟩ (fun hHeld2 => ?_)
    clear hK K hHeld
    have hHeld := hHeld2
    clear hHeld2
    simp only [Act.put, List.setIfInBounds_toArray, List.set_cons_zero, List.set_cons_succ]
    replace R0 := hide (show BxP ((w3.setCell ⟨GL, 0, none⟩ (.int .i64 x0.1)).setCell ⟨GL, 1, none⟩ (.int .i64 x0.2)) _ _ _ from ((unhide R0).other (by omega)).other (by omega))
    replace R1 := hide (show BxP ((w3.setCell ⟨GL, 0, none⟩ (.int .i64 x0.1)).setCell ⟨GL, 1, none⟩ (.int .i64 x0.2)) _ _ _ from ((unhide R1).other (by omega)).other (by omega))
    replace LO := hide (show BxP ((w3.setCell ⟨GL, 0, none⟩ (.int .i64 x0.1)).setCell ⟨GL, 1, none⟩ (.int .i64 x0.2)) _ _ _ from (unhide LO).set0.set1)
    replace HI := hide (show BxP ((w3.setCell ⟨GL, 0, none⟩ (.int .i64 x0.1)).setCell ⟨GL, 1, none⟩ (.int .i64 x0.2)) _ _ _ from ((unhide HI).other (by omega)).other (by omega))
    replace B2 := hide (show Below w.heap.size w ((w3.setCell ⟨GL, 0, none⟩ (.int .i64 x0.1)).setCell ⟨GL, 1, none⟩ (.int .i64 x0.2)) from bel_set (bel_set (unhide B2) (by omega) (unhide B2).size) (by omega) (by have := (unhide B2).size; simp; exact this))
    replace E0 : ((w3.setCell ⟨GL, 0, none⟩ (.int .i64 x0.1)).setCell ⟨GL, 1, none⟩ (.int .i64 x0.2)).cell? ⟨b, off, none⟩ = _ := cs_other (cs_other E0 bL) bL
    replace E1 : ((w3.setCell ⟨GL, 0, none⟩ (.int .i64 x0.1)).setCell ⟨GL, 1, none⟩ (.int .i64 x0.2)).cell? ⟨b, off + 1, none⟩ = _ := cs_other (cs_other E1 bL) bL
    clear l0 l1 lf h0' h1' hf
    generalize ((w3.setCell ⟨GL, 0, none⟩ (.int .i64 x0.1)).setCell ⟨GL, 1, none⟩ (.int .i64 x0.2)) = w4 at *
    have h0' := (unhide HI).c0
    have h1' := (unhide HI).c1
    have hf := (unhide HI).fz
    refine wpAnyH_ready (rs := [9]) (by kernel_rfl) (by simp) (AllReadyH.cons rfl (fun K hK => ?_) AllReadyH.nil)
    go_simp
    refine hK.out _ _ ⟨cs_other (cs_other E0 bH) bH, cs_other (cs_other E1 bH) bH⟩ (fun hHeld2 => ?_)
    clear hK K hHeld
    have hHeld := hHeld2
    clear hHeld2
    simp only [Act.put, List.setIfInBounds_toArray, List.set_cons_zero, List.set_cons_succ]
    replace R0 := hide (show BxP ((w4.setCell ⟨GH, 0, none⟩ (.int .i64 x0.1)).setCell ⟨GH, 1, none⟩ (.int .i64 x0.2)) _ _ _ from ((unhide R0).other (by omega)).other (by omega))
    replace R1 := hide (show BxP ((w4.setCell ⟨GH, 0, none⟩ (.int .i64 x0.1)).setCell ⟨GH, 1, none⟩ (.int .i64 x0.2)) _ _ _ from ((unhide R1).other (by omega)).other (by omega))
    replace HI := hide (show BxP ((w4.setCell ⟨GH, 0, none⟩ (.int .i64 x0.1)).setCell ⟨GH, 1, none⟩ (.int .i64 x0.2)) _ _ _ from (unhide HI).set0.set1)
    replace LO := hide (show BxP ((w4.setCell ⟨GH, 0, none⟩ (.int .i64 x0.1)).setCell ⟨GH, 1, none⟩ (.int .i64 x0.2)) _ _ _ from ((unhide LO).other (by omega)).other (by omega))
    replace B2 := hide (show Below w.heap.size w ((w4.setCell ⟨GH, 0, none⟩ (.int .i64 x0.1)).setCell ⟨GH, 1, none⟩ (.int .i64 x0.2)) from bel_set (bel_set (unhide B2) (by omega) (unhide B2).size) (by omega) (by have := (unhide B2).size; simp; exact this))
    clear h0' h1' hf E0 E1 bL bH
    generalize ((w4.setCell ⟨GH, 0, none⟩ (.int .i64 x0.1)).setCell ⟨GH, 1, none⟩ (.int .i64 x0.2)) = w5 at *
    refine wpAnyH_done (by kernel_rfl) ?_ _
    clear hHeld
    have sl1 : (1 : Int) ≤ (n : Int) := by omega
    have sl2 : (n : Int) ≤ (c : Int) := by omega
    have sl3 : ¬ (c = 1) := by omega
    have sl4 : (c == 1) = false := by simp; omega
    have sl5 : ¬ (c - 1 = 0) := by omega
    have sl6 : ¬ ((c : Int) = 1) := by omega
    go_wp2
    go_loopw [17] (fun iv wr => ∃ i : Nat, i + 1 ≤ n ∧ iv = .int .i64 i ∧ Hid (BxP wr w.heap.size 0 0) ∧ Hid (BxP wr (w.heap.size + 1) 0 0) ∧ Hid (BxP wr GL (loS l (i + 1)).1 (loS l (i + 1)).2) ∧ Hid (BxP wr GH (hiS l (i + 1)).1 (hiS l (i + 1)).2) ∧ Hid (Below w.heap.size w wr)) (fun iv _ => n - (intOf iv).toNat)
    case atStart => exact ⟨0, by omega, rfl, R0, R1, by rw [(unhide S0).1]; exact LO, by rw [(unhide S0).2]; exact HI, B2⟩
    case round =>
      clear R0 R1 LO HI B2 S0
      obtain ⟨i, hi, rfl, R0, R1, LO, HI, HB⟩ := hrel
      by_cases hlt : i + 1 < n
      · have hlt' : (i : Int) < ((n - 1 : Nat) : Int) := by omega
        have e0 := unhide HC (i + 1) (by rw [unhide HN]; exact hlt)
        rw [← getD_gt (by rw [unhide HN]; exact hlt)] at e0
        have EL : loS l (i + 1 + 1) = (min (loS l (i + 1)).1 (l.getD (i + 1) (0, 0)).1, min (loS l (i + 1)).2 (l.getD (i + 1) (0, 0)).2) := rfl
        have EH : hiS l (i + 1 + 1) = (max (hiS l (i + 1)).1 (l.getD (i + 1) (0, 0)).1, max (hiS l (i + 1)).2 (l.getD (i + 1) (0, 0)).2) := rfl
        have HEL := hide EL
        have HEH := hide EH
        clear EL EH
        generalize loS l (i + 1) = u at *
        generalize hiS l (i + 1) = v at *
        generalize l.getD (i + 1) (0, 0) = x at *
        have E0 : wr.cell? ⟨b, off + 2 + i * 2, none⟩ = some (.int .i64 x.1) := by have := ((unhide HB).cell (p := ⟨b, off + (i + 1) * 2, none⟩) hb).trans (e0.1); rw [show off + 2 + i * 2 = off + (i + 1) * 2 from by omega]; exact this
        have E1 : wr.cell? ⟨b, off + 2 + i * 2 + 1, none⟩ = some (.int .i64 x.2) := by have := ((unhide HB).cell (p := ⟨b, off + (i + 1) * 2 + 1, none⟩) hb).trans (e0.2); rw [show off + 2 + i * 2 + 1 = off + (i + 1) * 2 + 1 from by omega]; exact this
        have al : Below wr.heap.size wr (wr.alloc (.cells #[.int .i64 x.1, .int .i64 x.2] 25)) := (Below.refl _ _).alloc (Nat.le_refl _) _
        have KX : Hid (BxP (wr.alloc (.cells #[.int .i64 x.1, .int .i64 x.2] 25)) wr.heap.size x.1 x.2) := hide BxP.new
        have ltL := (unhide LO).lt
        have ltH := (unhide HI).lt
        replace R0 := hide ((unhide R0).later al)
        replace R1 := hide ((unhide R1).later al)
        replace LO := hide ((unhide LO).later al)
        replace HI := hide ((unhide HI).later al)
        replace HB := hide (below_on (unhide HB) al)
        clear e0 al
        go_upto_region 5 with fail
        clear E0 E1
        generalize wr.alloc (.cells #[.int .i64 x.1, .int .i64 x.2] 25) = w6 at *
        have x0 := (unhide KX).c0
        have x1 := (unhide KX).c1
        have l0 := (unhide LO).c0
        have l1 := (unhide LO).c1
        have lf := (unhide LO).fz
        have h0' := (unhide HI).c0
        have h1' := (unhide HI).c1
        have hf := (unhide HI).fz
        have n1 : wr.heap.size ≠ GL := by omega
        have n2 : wr.heap.size ≠ GH := by omega
        have m1 : (if x.1 < u.1 then x.1 else u.1) = min u.1 x.1 := by split <;> omega
        have m2 : (if x.2 < u.2 then x.2 else u.2) = min u.2 x.2 := by split <;> omega
        have m3 : (if v.1 < x.1 then x.1 else v.1) = max v.1 x.1 := by split <;> omega
        have m4 : (if v.2 < x.2 then x.2 else v.2) = max v.2 x.2 := by split <;> omega
        have HM := hide (And.intro m1 (And.intro m2 (And.intro m3 m4)))
        have sw : w.heap.size ≤ w6.heap.size := (unhide HB).size
        clear m1 m2 m3 m4
        go_wp2
        go_roundw
        case rel => exact ⟨i + 1, by omega, by go_num, hide (((((unhide R0).other (by omega)).other (by omega)).other (by omega)).other (by omega)), hide (((((unhide R1).other (by omega)).other (by omega)).other (by omega)).other (by omega)), by rw [unhide HEL, ← (unhide HM).1, ← (unhide HM).2.1]; exact hide (((((unhide LO).set0).set1).other (by omega)).other (by omega)), by rw [unhide HEH, ← (unhide HM).2.2.1, ← (unhide HM).2.2.2]; exact hide (((((unhide HI).other (by omega)).other (by omega)).set0).set1), hide (bel_set (bel_set (bel_set (bel_set (unhide HB) (by omega) (by omega)) (by omega) (by simp; omega)) (by omega) (by simp; omega)) (by omega) (by simp; omega))⟩
        case measure => simp [intOf]; omega
      · have hin : i + 1 = n := by omega
        have EN : Hid (loS l (i + 1) = loS l l.length ∧ hiS l (i + 1) = hiS l l.length) := hide (by rw [unhide HN, hin]; exact ⟨rfl, rfl⟩)
        have hge : ¬ ((i : Int) < ((n - 1 : Nat) : Int)) := by omega
        clear hin
        have sw : w.heap.size + 1 < wr.heap.size := (unhide R1).lt
        have l0 := (unhide LO).c0
        have l1 := (unhide LO).c1
        have h0' := (unhide HI).c0
        have h1' := (unhide HI).c1
        have a0 := (unhide R0).c0
        have a1 := (unhide R0).c1
        have af := (unhide R0).fz
        have b0 := (unhide R1).c0
        have b1 := (unhide R1).c1
        have bf := (unhide R1).fz
        have G0 := hide (bel_set (v := .int .i64 (hiS l (i + 1)).2) (i := 1) (bel_set (v := .int .i64 (hiS l (i + 1)).1) (i := 0) (bel_set (v := .int .i64 (loS l (i + 1)).2) (i := 1) (bel_set (v := .int .i64 (loS l (i + 1)).1) (i := 0) (unhide HB).drew (Nat.le_refl w.heap.size) (by simp; omega)) (Nat.le_refl _) (by simp; omega)) (show w.heap.size ≤ w.heap.size + 1 by omega) (by simp; omega)) (show w.heap.size ≤ w.heap.size + 1 by omega) (by simp; omega))
        have gl1 : GL ≠ w.heap.size := by omega
        have gl2 : GL ≠ w.heap.size + 1 := by omega
        have gh1 : GH ≠ w.heap.size := by omega
        have gh2 : GH ≠ w.heap.size + 1 := by omega
        rw [(unhide EN).1, (unhide EN).2] at G0
        rw [(unhide EN).1] at l0 l1
        rw [(unhide EN).2] at h0' h1'
        clear R0 R1 LO HI HB
        generalize hu : loS l l.length = u at *
        generalize hv : hiS l l.length = v at *
        have HU := hide (And.intro hu hv)
        clear hu hv
        go_upto_region 8 with fail
        go_region
        go_wp2_with fail
        refine bodyPost_ret (v := .tuple #[.agg #[.int .i64 u.1, .int .i64 u.2], .agg #[.int .i64 v.1, .int .i64 v.2]]) (by simp [results, Try.results63, go_sem, a0, a1, b0, b1]) rfl ?_
        exact ⟨by rw [(unhide HU).1, (unhide HU).2], unhide G0⟩
set_option maxHeartbeats 4000000 in
theorem BoxOfI (a : Option Addr) (n c : Nat) (l : List (Int × Int)) (w : World) (h : ArP w a n c l) (h1 : n ≤ 1048576) :
    Calls Try.prog 33 #[.slice a n c] w fun e w' => e = .returned (.tuple #[.agg #[.int .i64 (bxL l).1, .int .i64 (bxL l).2], .agg #[.int .i64 (bxH l).1, .int .i64 (bxH l).2], .bool (wayB l)]) ∧ Below w.heap.size w w' := by
  have hn := h.len
  have hcap := h.cap
  have C1 := hide (fun w (k : SlP w a l) => wayI a n c l w k hn (by unfold maxLen; omega))
  have al : Below w.heap.size w ((w.alloc (.cells #[.int .i64 0, .int .i64 0] 25)).alloc (.cells #[.int .i64 0, .int .i64 0] 25)) := ((Below.refl _ _).alloc (Nat.le_refl _) _).alloc (by simp) _
  have HS := hide (h.sl.later al)
  have BA := hide al
  have z1 : (w.alloc (.cells #[.int .i64 0, .int .i64 0] 25)).heap.size = w.heap.size + 1 := by simp
  have R0 : Hid (BxP ((w.alloc (.cells #[.int .i64 0, .int .i64 0] 25)).alloc (.cells #[.int .i64 0, .int .i64 0] 25)) w.heap.size 0 0) := hide (BxP.new.later ((Below.refl _ _).alloc (Nat.le_refl _) _))
  have R1 : Hid (BxP ((w.alloc (.cells #[.int .i64 0, .int .i64 0] 25)).alloc (.cells #[.int .i64 0, .int .i64 0] 25)) (w.heap.size + 1) 0 0) := hide (z1 ▸ BxP.new)
  have s2 : w.heap.size + 1 + 1 ≤ ((w.alloc (.cells #[.int .i64 0, .int .i64 0] 25)).alloc (.cells #[.int .i64 0, .int .i64 0] 25)).heap.size := by simp
  clear h al z1
  cases hg : wayB l
  · have EL : bxL l = (0, 0) := by unfold bxL; rw [hg]; rfl
    have EH : bxH l = (0, 0) := by unfold bxH; rw [hg]; rfl
    rw [EL, EH]
    rw [hg] at C1
    clear hg EL EH
    go_enter Try.func33, Try.ntmps33
    go_wp2_with fail
    refine (unhide C1 _ (unhide HS)).mono ?_
    rintro e w1 ⟨rfl, hb⟩
    have sz := hb.size
    have HB := hide (below_on (unhide BA) hb)
    replace R0 := hide ((unhide R0).later hb)
    replace R1 := hide ((unhide R1).later hb)
    have a0 := (unhide R0).c0
    have a1 := (unhide R0).c1
    have af := (unhide R0).fz
    have b0 := (unhide R1).c0
    have b1 := (unhide R1).c1
    have bf := (unhide R1).fz
    have G0 : Hid (Below w.heap.size w ((((w1.setCell ⟨w.heap.size, 0, none⟩ (.int .i64 0)).setCell ⟨w.heap.size, 1, none⟩ (.int .i64 0)).setCell ⟨w.heap.size + 1, 0, none⟩ (.int .i64 0)).setCell ⟨w.heap.size + 1, 1, none⟩ (.int .i64 0))) := hide (bel_set (bel_set (bel_set (bel_set (unhide HB) (Nat.le_refl _) (by omega)) (Nat.le_refl _) (by simp; omega)) (by omega) (by simp; omega)) (by omega) (by simp; omega))
    clear hb HS R0 R1
    go_wp2_with fail
    refine bodyPost_ret (v := .tuple #[.agg #[.int .i64 0, .int .i64 0], .agg #[.int .i64 0, .int .i64 0], .bool false]) (by simp [results, Try.results33, go_sem, a0, a1, b0, b1]) rfl ?_
    exact ⟨rfl, unhide G0⟩
  · have EL : bxL l = loS l l.length := by unfold bxL; rw [hg]; rfl
    have EH : bxH l = hiS l l.length := by unfold bxH; rw [hg]; rfl
    have wp := (way_parts hg).1
    have C2 := hide (fun w (k : SlP w a l) => boxI9 a n c l w k hn (by omega) (by omega) hcap)
    rw [EL, EH]
    rw [hg] at C1
    generalize loS l l.length = u at *
    generalize hiS l l.length = v at *
    clear hg EL EH
    go_enter Try.func33, Try.ntmps33
    go_wp2_with fail
    refine (unhide C1 _ (unhide HS)).mono ?_
    rintro e w1 ⟨rfl, hb⟩
    have sz := hb.size
    have HB := hide (below_on (unhide BA) hb)
    replace R0 := hide ((unhide R0).later hb)
    replace R1 := hide ((unhide R1).later hb)
    replace HS := hide ((unhide HS).later hb)
    clear hb
    go_wp2_with fail
    refine (unhide C2 _ (unhide HS)).mono ?_
    rintro e w2 ⟨rfl, hb⟩
    have sz2 := hb.size
    have al : Below w2.heap.size w2 ((w2.alloc (.cells #[.int .i64 u.1, .int .i64 u.2] 25)).alloc (.cells #[.int .i64 v.1, .int .i64 v.2] 25)) := ((Below.refl _ _).alloc (Nat.le_refl _) _).alloc (by simp) _
    have bel := below_on hb al
    replace HB := hide (below_on (unhide HB) bel)
    replace R0 := hide ((unhide R0).later bel)
    replace R1 := hide ((unhide R1).later bel)
    have z1 : (w2.alloc (.cells #[.int .i64 u.1, .int .i64 u.2] 25)).heap.size = w2.heap.size + 1 := by simp
    have LO : Hid (BxP ((w2.alloc (.cells #[.int .i64 u.1, .int .i64 u.2] 25)).alloc (.cells #[.int .i64 v.1, .int .i64 v.2] 25)) w2.heap.size u.1 u.2) := hide (BxP.new.later ((Below.refl _ _).alloc (Nat.le_refl _) _))
    have HI : Hid (BxP ((w2.alloc (.cells #[.int .i64 u.1, .int .i64 u.2] 25)).alloc (.cells #[.int .i64 v.1, .int .i64 v.2] 25)) (w2.heap.size + 1) v.1 v.2) := hide (z1 ▸ BxP.new)
    have sz3 : w2.heap.size + 1 + 1 ≤ ((w2.alloc (.cells #[.int .i64 u.1, .int .i64 u.2] 25)).alloc (.cells #[.int .i64 v.1, .int .i64 v.2] 25)).heap.size := by simp
    clear hb bel al z1 HS
    go_upto_region 4 with fail
    generalize ((w2.alloc (.cells #[.int .i64 u.1, .int .i64 u.2] 25)).alloc (.cells #[.int .i64 v.1, .int .i64 v.2] 25)) = w3 at *
    have a0 := (unhide R0).c0
    have a1 := (unhide R0).c1
    have af := (unhide R0).fz
    have b0 := (unhide R1).c0
    have b1 := (unhide R1).c1
    have bf := (unhide R1).fz
    have l0 := (unhide LO).c0
    have l1 := (unhide LO).c1
    have m0 := (unhide HI).c0
    have m1 := (unhide HI).c1
    have n1 : w2.heap.size ≠ w.heap.size := by omega
    have n2 : w2.heap.size ≠ w.heap.size + 1 := by omega
    have n3 : w2.heap.size + 1 ≠ w.heap.size := by omega
    have n4 : w2.heap.size + 1 ≠ w.heap.size + 1 := by omega
    have G0 := hide (bel_set (v := .int .i64 v.2) (i := 1) (bel_set (v := .int .i64 v.1) (i := 0) (bel_set (v := .int .i64 u.2) (i := 1) (bel_set (v := .int .i64 u.1) (i := 0) (unhide HB).drew (Nat.le_refl w.heap.size) (by simp; omega)) (Nat.le_refl _) (by simp; omega)) (show w.heap.size ≤ w.heap.size + 1 by omega) (by simp; omega)) (show w.heap.size ≤ w.heap.size + 1 by omega) (by simp; omega))
    clear R0 R1 LO HI HB
    go_region
    go_wp2_with fail
    refine bodyPost_ret (v := .tuple #[.agg #[.int .i64 u.1, .int .i64 u.2], .agg #[.int .i64 v.1, .int .i64 v.2], .bool true]) (by simp [results, Try.results33, go_sem, a0, a1, b0, b1]) rfl ?_
    exact ⟨rfl, unhide G0⟩
def rowS (l : List (Int × Int)) (y x0 : Int) : Nat → Int
  | 0 => 0
  | k + 1 => rowS l y x0 k + ptT l (x0 + k, y)
def gridR (l : List (Int × Int)) (y0 x0 : Int) (m : Nat) : Nat → Int
  | 0 => 0
  | k + 1 => gridR l y0 x0 m k + rowS l (y0 + k) x0 m
theorem rowS_bd (l : List (Int × Int)) (y x0 : Int) (h : l.length ≤ 12) : ∀ k : Nat, -(12 * (k : Int)) ≤ rowS l y x0 k ∧ rowS l y x0 k ≤ 12 * k
  | 0 => by simp [rowS]
  | k + 1 => by have := rowS_bd l y x0 h k; have := ptT_bd l (x0 + k, y); unfold rowS; omega
theorem gridR_bd (l : List (Int × Int)) (y0 x0 : Int) (m : Nat) (h : l.length ≤ 12) (hm : m ≤ 2001) : ∀ k : Nat, -(24012 * (k : Int)) ≤ gridR l y0 x0 m k ∧ gridR l y0 x0 m k ≤ 24012 * k
  | 0 => by simp [gridR]
  | k + 1 => by have := gridR_bd l y0 x0 m h hm k; have := rowS_bd l (y0 + k) x0 h m; unfold gridR; omega
theorem grid_col (l : List (Int × Int)) (x0 y0 : Int) (m : Nat) : ∀ k : Nat, gridS l x0 y0 (m + 1) k = gridS l x0 y0 m k + rowS l (y0 + m) x0 k
  | 0 => by simp [gridS, rowS]
  | k + 1 => by
    unfold gridS rowS
    rw [grid_col l x0 y0 m k]
    show _ + (colS l (x0 + k) y0 m + ptT l (x0 + k, y0 + m)) = _
    omega
theorem grid_nil (l : List (Int × Int)) (x0 y0 : Int) : ∀ k : Nat, gridS l x0 y0 0 k = 0
  | 0 => rfl
  | k + 1 => by unfold gridS; rw [grid_nil l x0 y0 k]; rfl
theorem grid_rows (l : List (Int × Int)) (x0 y0 : Int) (k : Nat) : ∀ m : Nat, gridR l y0 x0 k m = gridS l x0 y0 m k
  | 0 => by rw [grid_nil]; rfl
  | m + 1 => by rw [grid_col, ← grid_rows l x0 y0 k m]; rfl
set_option maxHeartbeats 8000000 in
theorem wsumI (G n : Nat) (l : List (Int × Int)) (u v : Int × Int) (w : World) (h : StP w G n l) (h0 : 0 < n) (h12 : n ≤ 12) (hg : ∀ p ∈ l, Near p) (bl : (-1000 ≤ u.1 ∧ u.1 ≤ 1000) ∧ (-1000 ≤ u.2 ∧ u.2 ≤ 1000)) (bh : (-1000 ≤ v.1 ∧ v.1 ≤ 1000) ∧ (-1000 ≤ v.2 ∧ v.2 ≤ 1000)) :
    Calls Try.prog 64 #[.slice (some ⟨G, 0, none⟩) n n, .agg #[.int .i64 u.1, .int .i64 u.2], .agg #[.int .i64 v.1, .int .i64 v.2]] w fun e w' => e = .returned (.int .i64 (gridR l u.2 u.1 (v.1 - u.1 + 1).toNat (v.2 - u.2 + 1).toNat)) ∧ Below w.heap.size w w' := by
  obtain ⟨M, hM⟩ : ∃ M : Nat, M = (v.1 - u.1 + 1).toNat := ⟨_, rfl⟩
  obtain ⟨K, hK⟩ : ∃ K : Nat, K = (v.2 - u.2 + 1).toNat := ⟨_, rfl⟩
  rw [← hM, ← hK]
  have HN := hide h.len
  have WP := hide hg
  have al : Below w.heap.size w ((w.alloc (.cells #[.int .i64 u.1, .int .i64 u.2] 25)).alloc (.cells #[.int .i64 v.1, .int .i64 v.2] 25)) := ((Below.refl _ _).alloc (Nat.le_refl _) _).alloc (by simp) _
  have HS := hide (h.later al)
  have HB := hide al
  have z1 : (w.alloc (.cells #[.int .i64 u.1, .int .i64 u.2] 25)).heap.size = w.heap.size + 1 := by simp
  have LO : Hid (BxP ((w.alloc (.cells #[.int .i64 u.1, .int .i64 u.2] 25)).alloc (.cells #[.int .i64 v.1, .int .i64 v.2] 25)) w.heap.size u.1 u.2) := hide (BxP.new.later ((Below.refl _ _).alloc (Nat.le_refl _) _))
  have HI : Hid (BxP ((w.alloc (.cells #[.int .i64 u.1, .int .i64 u.2] 25)).alloc (.cells #[.int .i64 v.1, .int .i64 v.2] 25)) (w.heap.size + 1) v.1 v.2) := hide (z1 ▸ BxP.new)
  clear h hg al z1
  go_enter Try.func64, Try.ntmps64
  go_upto_region 1 with fail
  generalize ((w.alloc (.cells #[.int .i64 u.1, .int .i64 u.2] 25)).alloc (.cells #[.int .i64 v.1, .int .i64 v.2] 25)) = w3 at *
  have l0 := (unhide LO).c0
  have l1 := (unhide LO).c1
  have m0 := (unhide HI).c0
  have m1 := (unhide HI).c1
  go_wp2
  clear l0 l1 m0 m1
  go_loopw [7, 8] (fun sv xv wr => ∃ i : Nat, i ≤ K ∧ xv = .int .i64 (u.2 + i) ∧ sv = .int .i64 (gridR l u.2 u.1 M i) ∧ Hid (Below w3.heap.size w3 wr)) (fun _ xv _ => (v.2 + 1 - intOf xv).toNat)
  case atStart => exact ⟨0, Nat.zero_le _, by simp, rfl, hide (Below.refl _ _)⟩
  case round =>
    obtain ⟨i, hi, rfl, rfl, HR⟩ := hrel
    have m0 := ((unhide HI).later (unhide HR)).c0
    have m1 := ((unhide HI).later (unhide HR)).c1
    have l0 := ((unhide LO).later (unhide HR)).c0
    have l1 := ((unhide LO).later (unhide HR)).c1
    by_cases hx : u.2 + (i : Int) ≤ v.2
    · have dx : decide (u.2 + (i : Int) ≤ v.2) = true := decide_eq_true hx
      have wx : IntKind.i64.wrap (u.2 + (i : Int) + 1) = u.2 + (i : Int) + 1 := by rw [IntKind.wrap_i64]; omega
      obtain ⟨wo, hwo⟩ : ∃ x, x = wr := ⟨_, rfl⟩
      subst hwo
      go_wp2
      clear m0 m1 l0 l1
      go_loopw [7, 9] (fun sv yv wr => ∃ j : Nat, j ≤ M ∧ yv = .int .i64 (u.1 + j) ∧ sv = .int .i64 (gridR l u.2 u.1 M i + rowS l (u.2 + i) u.1 j) ∧ Hid (Below w3.heap.size w3 wr)) (fun _ yv _ => (v.1 + 1 - intOf yv).toNat)
      case atStart => exact ⟨0, Nat.zero_le _, by simp, by simp [rowS], HR⟩
      case round =>
        clear HR
        obtain ⟨j, hj, rfl, rfl, HR⟩ := hrel
        have m0 := ((unhide HI).later (unhide HR)).c0
        have m1 := ((unhide HI).later (unhide HR)).c1
        by_cases hy : u.1 + (j : Int) ≤ v.1
        · have dy : decide (u.1 + (j : Int) ≤ v.1) = true := decide_eq_true hy
          have wy : IntKind.i64.wrap (u.1 + (j : Int) + 1) = u.1 + (j : Int) + 1 := by rw [IntKind.wrap_i64]; omega
          have g1 := gridR_bd l u.2 u.1 M (by rw [unhide HN]; omega) (by omega) i
          have g2 := rowS_bd l (u.2 + i) u.1 (by rw [unhide HN]; omega) j
          have g3 := ptT_bd l (u.1 + j, u.2 + i)
          rw [unhide HN] at g3
          have ES : rowS l (u.2 + i) u.1 (j + 1) = rowS l (u.2 + i) u.1 j + ptT l (u.1 + j, u.2 + i) := rfl
          have HES := hide ES
          have np : Near (u.1 + (j : Int), u.2 + (i : Int)) := ⟨by show _ ≤ u.1 + (j : Int); omega, by show u.1 + (j : Int) ≤ _; omega, by show _ ≤ u.2 + (i : Int); omega, by show u.2 + (i : Int) ≤ _; omega⟩
          have CO := hide (fun w (k : StP w G n l) => onAnyI G n l (u.1 + (j : Int), u.2 + (i : Int)) w k (by omega) (by omega) (unhide WP) np)
          have CW := hide (fun w (k : StP w G n l) => windI G n l (u.1 + (j : Int), u.2 + (i : Int)) w k (by omega) (by omega) (unhide WP) np)
          have ET : Hid (ptT l (u.1 + (j : Int), u.2 + (i : Int)) = if onK l (u.1 + (j : Int), u.2 + (i : Int)) l.length then 0 else wiS l (u.1 + (j : Int), u.2 + (i : Int)) l.length) := hide rfl
          generalize rowS l (u.2 + i) u.1 j = s1 at *
          generalize gridR l u.2 u.1 M i = s0 at *
          obtain ⟨x, hxe⟩ : ∃ x, u.2 + (i : Int) = x := ⟨_, rfl⟩
          obtain ⟨y, hye⟩ : ∃ y, u.1 + (j : Int) = y := ⟨_, rfl⟩
          rw [hxe, hye] at CO CW ET g3 HES
          generalize wiS l (y, x) l.length = wv at *
          have HXY := hide (And.intro hxe hye)
          have HS3 := hide ((unhide HS).later (unhide HR))
          have al : Below wr.heap.size wr (wr.alloc (.cells #[.int .i64 y, .int .i64 x] 25)) := (Below.refl _ _).alloc (Nat.le_refl _) _
          have KX : Hid (BxP (wr.alloc (.cells #[.int .i64 y, .int .i64 x] 25)) wr.heap.size y x) := hide BxP.new
          replace HS3 := hide ((unhide HS3).later al)
          have HR2 := hide (below_on (unhide HR) al)
          have mm0 := cell_later al m0
          have mm1 := cell_later al m1
          clear al ES np
          rw [hxe, hye]
          go_upto_region 9 with fail
          rw [hxe] at dx wx
          rw [hye] at dy wy
          generalize wr.alloc (.cells #[.int .i64 y, .int .i64 x] 25) = w5 at *
          have k0 := (unhide KX).c0
          have k1 := (unhide KX).c1
          cases hon : onK l (y, x) l.length
          · rw [hon] at CO ET
            have PV : Hid (ptT l (y, x) = wv) := hide (by rw [unhide ET]; rfl)
            have wa : IntKind.i64.wrap (s0 + s1 + wv) = s0 + s1 + wv := by have := unhide PV; rw [IntKind.wrap_i64]; omega
            clear hon
            go_wp2_with fail
            refine (unhide CO _ (unhide HS3)).mono ?_
            rintro e w6 ⟨rfl, hb⟩
            replace HR2 := hide (below_on (unhide HR2) hb)
            replace HS3 := hide ((unhide HS3).later hb)
            replace k0 := cell_later hb k0
            replace k1 := cell_later hb k1
            clear hb
            go_wp2_with fail
            refine (unhide CW _ (unhide HS3)).mono ?_
            rintro e w7 ⟨rfl, hb⟩
            replace HR2 := hide (below_on (unhide HR2) hb)
            clear hb k0 k1
            go_wp2
            go_roundw
            case rel => exact ⟨j + 1, by omega, by rw [show u.1 + ((j + 1 : Nat) : Int) = y + 1 by omega], by rw [show rowS l x u.1 (j + 1) = s1 + wv by rw [unhide HES, unhide PV], Int.add_assoc], HR2⟩
            case measure => simp [intOf]; omega
          · rw [hon] at CO ET
            have PV : Hid (ptT l (y, x) = 0) := hide (by rw [unhide ET]; rfl)
            clear hon
            go_wp2_with fail
            refine (unhide CO _ (unhide HS3)).mono ?_
            rintro e w6 ⟨rfl, hb⟩
            replace HR2 := hide (below_on (unhide HR2) hb)
            clear hb k0 k1
            go_wp2
            go_roundw
            case rel => exact ⟨j + 1, by omega, by rw [show u.1 + ((j + 1 : Nat) : Int) = y + 1 by omega], by rw [show rowS l x u.1 (j + 1) = s1 by rw [unhide HES, unhide PV, Int.add_zero]], HR2⟩
            case measure => simp [intOf]; omega
        · have dy : decide (u.1 + (j : Int) ≤ v.1) = false := decide_eq_false hy
          have jm : j = M := by omega
          have EG : Hid (gridR l u.2 u.1 M (i + 1) = gridR l u.2 u.1 M i + rowS l (u.2 + i) u.1 j) := hide (by rw [jm]; rfl)
          generalize rowS l (u.2 + i) u.1 j = s1 at *
          generalize gridR l u.2 u.1 M i = s0 at *
          go_wp2
          go_roundw
          case rel => exact ⟨i + 1, by omega, by congr 1; omega, by rw [unhide EG], HR⟩
          case measure => simp [intOf]; omega
    · have dx : decide (u.2 + (i : Int) ≤ v.2) = false := decide_eq_false hx
      have ik : i = K := by omega
      have EG : Hid (gridR l u.2 u.1 M i = gridR l u.2 u.1 M K) := hide (by rw [ik])
      have F0 := hide (below_on (unhide HB) (unhide HR))
      clear ik hM hK
      go_wp2
      go_ret
      exact ⟨by rw [← unhide EG]; rfl, unhide F0⟩
set_option maxHeartbeats 16000000 in
theorem WindingSumI (a : Option Addr) (n c : Nat) (l : List (Int × Int)) (w : World) (h : ArP w a n c l) (h1 : n ≤ 1048576) :
    Calls Try.prog 31 #[.slice a n c] w fun e w' => e = .returned (.tuple #[.int .i64 (wsV l), .bool (wsB l)]) ∧ Below w.heap.size w w' := by
  have hn := h.len
  have hcap := h.cap
  have C1 := hide (fun w (k : SlP w a l) => wayI a n c l w k hn (by unfold maxLen; omega))
  have HS := hide h.sl
  clear h
  cases hg : wayB l
  · have EB : wsB l = false := by unfold wsB; rw [hg]; rfl
    have EV : wsV l = 0 := by unfold wsV; rw [EB]; rfl
    rw [EV, EB]
    rw [hg] at C1
    clear hg EV EB
    go_enter Try.func31, Try.ntmps31
    go_wp2_with fail
    refine (unhide C1 _ (unhide HS)).mono ?_
    rintro e w1 ⟨rfl, hb⟩
    have HB := hide hb
    replace HS := hide ((unhide HS).later hb)
    clear hb
    go_wp2_with fail
    go_ret2
    exact ⟨rfl, unhide HB⟩
  · have wp := way_parts hg
    have ln := wp.1
    rw [hn] at ln
    have gd := way_good9 hg
    have bl := lo_bd gd (by omega) l.length (Nat.le_refl _)
    have bh := hi_bd gd (by omega) l.length (Nat.le_refl _)
    have C2 := hide (fun w (k : SlP w a l) => boxI9 a n c l w k hn (by omega) (by omega) hcap)
    have EB : wsB l = !(bigB l) := by unfold wsB; rw [hg]; rfl
    have EBB : bigB l = decide (400 < ((hiS l l.length).1 - (loS l l.length).1 + 1) * ((hiS l l.length).2 - (loS l l.length).2 + 1)) := rfl
    have EVV : wsV l = if wsB l then gridS l (loS l l.length).1 (loS l l.length).2 ((hiS l l.length).2 - (loS l l.length).2 + 1).toNat ((hiS l l.length).1 - (loS l l.length).1 + 1).toNat else 0 := rfl
    rw [hg] at C1
    clear hg gd
    generalize loS l l.length = u at *
    generalize hiS l l.length = v at *
    have m1' := @mul_bd (v.1 - u.1 + 1) (v.2 - u.2 + 1) (by omega) (by omega) (by omega) (by omega)
    have w1' : IntKind.i64.wrap (v.1 - u.1) = v.1 - u.1 := by rw [IntKind.wrap_i64]; omega
    have w2' : IntKind.i64.wrap (v.1 - u.1 + 1) = v.1 - u.1 + 1 := by rw [IntKind.wrap_i64]; omega
    have w3' : IntKind.i64.wrap (v.2 - u.2) = v.2 - u.2 := by rw [IntKind.wrap_i64]; omega
    have w4' : IntKind.i64.wrap (v.2 - u.2 + 1) = v.2 - u.2 + 1 := by rw [IntKind.wrap_i64]; omega
    have w5' : IntKind.i64.wrap ((v.1 - u.1 + 1) * (v.2 - u.2 + 1)) = (v.1 - u.1 + 1) * (v.2 - u.2 + 1) := by rw [IntKind.wrap_i64]; omega
    clear m1'
    cases hbg : bigB l
    · rw [hbg] at EB EBB
      have EV : wsV l = gridS l u.1 u.2 (v.2 - u.2 + 1).toNat (v.1 - u.1 + 1).toNat := by rw [EVV, EB]; rfl
      have dd : decide (400 < (v.1 - u.1 + 1) * (v.2 - u.2 + 1)) = false := EBB.symm
      rw [EV, EB]
      have HN := hide hn
      have WP := hide wp.2
      clear EV EVV EB EBB hbg wp hn
      obtain ⟨M, hM⟩ : ∃ M : Nat, M = (v.2 - u.2 + 1).toNat := ⟨_, rfl⟩
      obtain ⟨K, hK⟩ : ∃ K : Nat, K = (v.1 - u.1 + 1).toNat := ⟨_, rfl⟩
      rw [← hM, ← hK]
      have CST := hide (fun w (k : SlP w a l) => stretchesI a n c l w k (unhide HN) (by omega) (by omega))
      have CW := hide (fun G w (k : StP w G n l) => wsumI G n l u v w k (by omega) (by omega) (unhide WP) bl bh)
      rw [← hM, ← hK, grid_rows] at CW
      generalize gridS l u.1 u.2 M K = r at *
      clear bl bh
      go_enter Try.func31, Try.ntmps31
      go_wp2_with fail
      refine (unhide C1 _ (unhide HS)).mono ?_
      rintro e w1 ⟨rfl, hb⟩
      have HB := hide hb
      replace HS := hide ((unhide HS).later hb)
      clear hb
      go_wp2_with fail
      refine (unhide C2 _ (unhide HS)).mono ?_
      rintro e w2 ⟨rfl, hb⟩
      have al : Below w2.heap.size w2 ((w2.alloc (.cells #[.int .i64 u.1, .int .i64 u.2] 25)).alloc (.cells #[.int .i64 v.1, .int .i64 v.2] 25)) := ((Below.refl _ _).alloc (Nat.le_refl _) _).alloc (by simp) _
      have bel := below_on hb al
      replace HB := hide (below_on (unhide HB) bel)
      replace HS := hide ((unhide HS).later bel)
      have z1 : (w2.alloc (.cells #[.int .i64 u.1, .int .i64 u.2] 25)).heap.size = w2.heap.size + 1 := by simp
      have LO : Hid (BxP ((w2.alloc (.cells #[.int .i64 u.1, .int .i64 u.2] 25)).alloc (.cells #[.int .i64 v.1, .int .i64 v.2] 25)) w2.heap.size u.1 u.2) := hide (BxP.new.later ((Below.refl _ _).alloc (Nat.le_refl _) _))
      have HI : Hid (BxP ((w2.alloc (.cells #[.int .i64 u.1, .int .i64 u.2] 25)).alloc (.cells #[.int .i64 v.1, .int .i64 v.2] 25)) (w2.heap.size + 1) v.1 v.2) := hide (z1 ▸ BxP.new)
      clear hb bel al z1
      go_upto_region 4 with fail
      generalize ((w2.alloc (.cells #[.int .i64 u.1, .int .i64 u.2] 25)).alloc (.cells #[.int .i64 v.1, .int .i64 v.2] 25)) = w3 at *
      have l0 := (unhide LO).c0
      have l1 := (unhide LO).c1
      have m0 := (unhide HI).c0
      have m1 := (unhide HI).c1
      clear LO HI
      go_upto_region 6 with fail
      have HX0 : Hid True := hide trivial
      go_region_held3 (fun w' => w'.cell? ⟨w2.heap.size, 0, none⟩ = some (.int .i64 u.1) ∧ w'.cell? ⟨w2.heap.size, 1, none⟩ = some (.int .i64 u.2) ∧ w'.cell? ⟨w2.heap.size + 1, 0, none⟩ = some (.int .i64 v.1) ∧ w'.cell? ⟨w2.heap.size + 1, 1, none⟩ = some (.int .i64 v.2))
        (with_reducible (first | exact ⟨l0, l1, m0, m1⟩ | exact ⟨cdP l0, cdP l1, cdP m0, cdP m1⟩ | fail))
        (first
        | (have chk := HX0; go_at_call 52; refine (unhide CST _ ((unhide HS).later (Below.refl _ _).drew)).mono ?_; rintro e w4 ⟨rfl, hb1, st⟩; have hbx := below_of_drew hb1; have ST := hide st; clear st; replace l0 := cell_later hbx l0; replace l1 := cell_later hbx l1; replace m0 := cell_later hbx m0; replace m1 := cell_later hbx m1; replace HS := hide ((unhide HS).later hbx); replace HB := hide (below_on (unhide HB) hbx); clear hb1 hbx; clear HX0 chk; have HX1 : Hid True := hide trivial)
        | (have chk := HX1; go_at_call 64; refine (unhide CW _ _ (unhide ST)).mono ?_; rintro e w5 ⟨rfl, hb1⟩; have hbx := hb1; replace l0 := cell_later hbx l0; replace l1 := cell_later hbx l1; replace m0 := cell_later hbx m0; replace m1 := cell_later hbx m1; replace HS := hide ((unhide HS).later hbx); replace HB := hide (below_on (unhide HB) hbx); clear hb1 hbx; clear HX1 chk)
        | fail)
      go_wp2
      go_ret2
      exact ⟨rfl, unhide HB⟩
    · rw [hbg] at EB EBB
      have EV : wsV l = 0 := by rw [EVV, EB]; rfl
      have dd : decide (400 < (v.1 - u.1 + 1) * (v.2 - u.2 + 1)) = true := EBB.symm
      rw [EV, EB]
      clear EV EVV EB EBB hbg wp hn
      go_enter Try.func31, Try.ntmps31
      go_wp2_with fail
      refine (unhide C1 _ (unhide HS)).mono ?_
      rintro e w1 ⟨rfl, hb⟩
      have HB := hide hb
      replace HS := hide ((unhide HS).later hb)
      clear hb
      go_wp2_with fail
      refine (unhide C2 _ (unhide HS)).mono ?_
      rintro e w2 ⟨rfl, hb⟩
      have al : Below w2.heap.size w2 ((w2.alloc (.cells #[.int .i64 u.1, .int .i64 u.2] 25)).alloc (.cells #[.int .i64 v.1, .int .i64 v.2] 25)) := ((Below.refl _ _).alloc (Nat.le_refl _) _).alloc (by simp) _
      have bel := below_on hb al
      replace HB := hide (below_on (unhide HB) bel)
      replace HS := hide ((unhide HS).later bel)
      have z1 : (w2.alloc (.cells #[.int .i64 u.1, .int .i64 u.2] 25)).heap.size = w2.heap.size + 1 := by simp
      have LO : Hid (BxP ((w2.alloc (.cells #[.int .i64 u.1, .int .i64 u.2] 25)).alloc (.cells #[.int .i64 v.1, .int .i64 v.2] 25)) w2.heap.size u.1 u.2) := hide (BxP.new.later ((Below.refl _ _).alloc (Nat.le_refl _) _))
      have HI : Hid (BxP ((w2.alloc (.cells #[.int .i64 u.1, .int .i64 u.2] 25)).alloc (.cells #[.int .i64 v.1, .int .i64 v.2] 25)) (w2.heap.size + 1) v.1 v.2) := hide (z1 ▸ BxP.new)
      clear hb bel al z1
      go_upto_region 4 with fail
      generalize ((w2.alloc (.cells #[.int .i64 u.1, .int .i64 u.2] 25)).alloc (.cells #[.int .i64 v.1, .int .i64 v.2] 25)) = w3 at *
      have l0 := (unhide LO).c0
      have l1 := (unhide LO).c1
      have m0 := (unhide HI).c0
      have m1 := (unhide HI).c1
      go_wp2_with fail
      go_ret2
      exact ⟨rfl, unhide HB⟩
end Go.Proofs.Ytgphhlhpoffabaa

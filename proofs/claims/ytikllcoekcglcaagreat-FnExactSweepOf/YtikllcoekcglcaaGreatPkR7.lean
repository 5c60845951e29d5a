/- SweepOf of the program, at every list of points. No condition beyond those typed. Written by mksw12.py. -/
import Derived.Test.YtikllcoekcglcaaGreatPkR6
namespace Go.Proofs.YtikllcoekcglcaaGreat
open Go.RowKit
set_option linter.unusedVariables false
set_option maxRecDepth 100000
set_option linter.unusedSimpArgs false


set_option maxHeartbeats 16000000 in
theorem swpI (a : Option Addr) (n c : Nat) (l : List (SV × SD)) (ps : List (Rat × Rat)) (w : World) (h : RdC w a n c l ps) (hb : BdC ps 48) (h1 : 1 ≤ n) (h5 : n ≤ 5) :
    Calls Tryz.prog 115 #[.slice a n c] w (OuR w (outI ps n)) := by
  have RD := hide h
  have BD := hide hb
  have HS := hide h.ar
  have HN := hide h.ar.len
  have LP : Hid (ps.length = n) := hide h.len
  have hcap := h.ar.cap
  have htop := h.ar.top
  unfold maxLen at htop
  clear h hb
  rcases (unhide HS).at_ with e | ⟨b, off, rfl, hbb, hcb⟩
  · exact absurd (unhide HN) (by rw [e]; simp <;> omega)
  have HC := hide hcb
  clear hcb
  have KB : Hid (Below w.heap.size w (w.alloc (.cells #[.bool false, .slice none 0 0, .bool false, .slice none 0 0] 28))) := hide ((Below.refl _ _).alloc (Nat.le_refl _) _)
  have RC : Hid (((w.alloc (.cells #[.bool false, .slice none 0 0, .bool false, .slice none 0 0] 28)).cell? ⟨w.heap.size, 0, none⟩ = some (.bool false) ∧ (w.alloc (.cells #[.bool false, .slice none 0 0, .bool false, .slice none 0 0] 28)).cell? ⟨w.heap.size, 1, none⟩ = some (.slice none 0 0) ∧ (w.alloc (.cells #[.bool false, .slice none 0 0, .bool false, .slice none 0 0] 28)).cell? ⟨w.heap.size, 2, none⟩ = some (.bool false) ∧ (w.alloc (.cells #[.bool false, .slice none 0 0, .bool false, .slice none 0 0] 28)).cell? ⟨w.heap.size, 3, none⟩ = some (.slice none 0 0)) ∧ ∀ o, (w.alloc (.cells #[.bool false, .slice none 0 0, .bool false, .slice none 0 0] 28)).frozen? ⟨w.heap.size, o, none⟩ = false) := hide (by refine ⟨⟨?_, ?_, ?_, ?_⟩, fun o => ?_⟩ <;> simp [go_sem])
  have sz0 : w.heap.size + 1 = (w.alloc (.cells #[.bool false, .slice none 0 0, .bool false, .slice none 0 0] 28)).heap.size := by simp
  go_enter Tryz.func115, Tryz.ntmps115
  go_upto_region 1 with fail
  generalize (w.alloc (.cells #[.bool false, .slice none 0 0, .bool false, .slice none 0 0] 28)) = wA at *
  have ltR : w.heap.size < wA.heap.size := by omega
  go_wp2_with fail
  refine (wholeRI 0 _ (by omega) (by omega)).mono ?_
  rintro e w1 ⟨q0, la, lb, rfl, hb1, o1, a1, m1, n1⟩
  have s1 := hb1.size
  have OW := hide (owR_of (x := ((0 : Int) : Rat)) o1 a1 m1 n1)
  have al : Below w1.heap.size w1 (w1.alloc (.cells #[.bool q0.num.g, .slice q0.num.a q0.num.n q0.num.c, .bool q0.den.g, .slice q0.den.a q0.den.n q0.den.c] 28)) := (Below.refl _ _).alloc (Nat.le_refl _) _
  have SM0 : Hid (SmB w.heap.size w1.heap.size (w1.alloc (.cells #[.bool q0.num.g, .slice q0.num.a q0.num.n q0.num.c, .bool q0.den.g, .slice q0.den.a q0.den.n q0.den.c] 28)) q0 (outI ps 0)) := hide ⟨by simp [go_sem], by simp [go_sem], by simp [go_sem], by simp [go_sem], fun o => by simp [go_sem], ((unhide OW).later al).wide (by omega) al.size⟩
  have HR : Hid (((w1.alloc (.cells #[.bool q0.num.g, .slice q0.num.a q0.num.n q0.num.c, .bool q0.den.g, .slice q0.den.a q0.den.n q0.den.c] 28)).cell? ⟨w.heap.size, 0, none⟩ = some (.bool false) ∧ (w1.alloc (.cells #[.bool q0.num.g, .slice q0.num.a q0.num.n q0.num.c, .bool q0.den.g, .slice q0.den.a q0.den.n q0.den.c] 28)).cell? ⟨w.heap.size, 1, none⟩ = some (.slice none 0 0) ∧ (w1.alloc (.cells #[.bool q0.num.g, .slice q0.num.a q0.num.n q0.num.c, .bool q0.den.g, .slice q0.den.a q0.den.n q0.den.c] 28)).cell? ⟨w.heap.size, 2, none⟩ = some (.bool false) ∧ (w1.alloc (.cells #[.bool q0.num.g, .slice q0.num.a q0.num.n q0.num.c, .bool q0.den.g, .slice q0.den.a q0.den.n q0.den.c] 28)).cell? ⟨w.heap.size, 3, none⟩ = some (.slice none 0 0)) ∧ ∀ o, (w1.alloc (.cells #[.bool q0.num.g, .slice q0.num.a q0.num.n q0.num.c, .bool q0.den.g, .slice q0.den.a q0.den.n q0.den.c] 28)).frozen? ⟨w.heap.size, o, none⟩ = false) := hide ⟨⟨((below_on hb1 al).cell (p := ⟨w.heap.size, 0, none⟩) ltR).trans (unhide RC).1.1, ((below_on hb1 al).cell (p := ⟨w.heap.size, 1, none⟩) ltR).trans (unhide RC).1.2.1, ((below_on hb1 al).cell (p := ⟨w.heap.size, 2, none⟩) ltR).trans (unhide RC).1.2.2.1, ((below_on hb1 al).cell (p := ⟨w.heap.size, 3, none⟩) ltR).trans (unhide RC).1.2.2.2⟩, fun o => frozen_later (below_on hb1 al) ltR ((unhide RC).2 o)⟩
  have HBs : Hid (Below w.heap.size w (w1.alloc (.cells #[.bool q0.num.g, .slice q0.num.a q0.num.n q0.num.c, .bool q0.den.g, .slice q0.den.a q0.den.n q0.den.c] 28))) := hide (below_on (unhide KB) (below_on hb1 al))
  have szS : w1.heap.size + 1 = (w1.alloc (.cells #[.bool q0.num.g, .slice q0.num.a q0.num.n q0.num.c, .bool q0.den.g, .slice q0.den.a q0.den.n q0.den.c] 28)).heap.size := by simp
  clear hb1 o1 a1 m1 n1 al OW RC KB
  go_upto_region 2 with fail
  generalize (w1.alloc (.cells #[.bool q0.num.g, .slice q0.num.a q0.num.n q0.num.c, .bool q0.den.g, .slice q0.den.a q0.den.n q0.den.c] 28)) = ws at *
  generalize w1.heap.size = S at *
  go_wp2
  go_loopw [11] (fun iv wr => ∃ (j : Nat) (q : QV), j ≤ n ∧ iv = .int .i64 j ∧ Hid (SmB w.heap.size S wr q (outI ps j)) ∧ Hid (But S (S + 1) ws wr) ∧ Hid (Below w.heap.size w wr)) (fun iv _ => n - (intOf iv).toNat)
  case atStart => exact ⟨0, q0, Nat.zero_le _, rfl, SM0, hide (But.refl _ _ _), HBs⟩
  case round =>
    clear SM0 HBs
    obtain ⟨j, q, hj', rfl, SM, HBo, HBw⟩ := hrel
    by_cases hlt : j < n
    · have hlt' : (j : Int) < (n : Int) := by omega
      have hcb := unhide HC
      have hb := hbb
      have e0 := hcb j (by rw [unhide HN]; exact hlt)
      obtain ⟨v, hv⟩ : ∃ y, y = l[j]'(by rw [unhide HN]; exact hlt) := ⟨_, rfl⟩
      rw [← hv] at e0
      have Mv : Hid (l[j]? = some v) := hide (by rw [hv]; exact List.getElem?_eq_getElem _)
      clear hv
      have E0 : wr.cell? ⟨b, off + j * 8, none⟩ = some (.bool v.1.lo.num.g) := ((unhide HBw).cell (p := ⟨b, off + j * 8, none⟩) hb).trans (e0.1)
      have E1 : wr.cell? ⟨b, off + j * 8 + 1, none⟩ = some (.slice v.1.lo.num.a v.1.lo.num.n v.1.lo.num.c) := ((unhide HBw).cell (p := ⟨b, off + j * 8 + 1, none⟩) hb).trans (e0.2.1)
      have E2 : wr.cell? ⟨b, off + j * 8 + 2, none⟩ = some (.bool v.1.lo.den.g) := ((unhide HBw).cell (p := ⟨b, off + j * 8 + 2, none⟩) hb).trans (e0.2.2.1)
      have E3 : wr.cell? ⟨b, off + j * 8 + 3, none⟩ = some (.slice v.1.lo.den.a v.1.lo.den.n v.1.lo.den.c) := ((unhide HBw).cell (p := ⟨b, off + j * 8 + 3, none⟩) hb).trans (e0.2.2.2.1)
      have E4 : wr.cell? ⟨b, off + j * 8 + 4, none⟩ = some (.bool v.1.hi.num.g) := ((unhide HBw).cell (p := ⟨b, off + j * 8 + 4, none⟩) hb).trans (e0.2.2.2.2.1)
      have E5 : wr.cell? ⟨b, off + j * 8 + 5, none⟩ = some (.slice v.1.hi.num.a v.1.hi.num.n v.1.hi.num.c) := ((unhide HBw).cell (p := ⟨b, off + j * 8 + 5, none⟩) hb).trans (e0.2.2.2.2.2.1)
      have E6 : wr.cell? ⟨b, off + j * 8 + 6, none⟩ = some (.bool v.1.hi.den.g) := ((unhide HBw).cell (p := ⟨b, off + j * 8 + 6, none⟩) hb).trans (e0.2.2.2.2.2.2.1)
      have E7 : wr.cell? ⟨b, off + j * 8 + 7, none⟩ = some (.slice v.1.hi.den.a v.1.hi.den.n v.1.hi.den.c) := ((unhide HBw).cell (p := ⟨b, off + j * 8 + 7, none⟩) hb).trans (e0.2.2.2.2.2.2.2)
      clear e0
      clear hcb
      obtain ⟨r, hr1, hr2, hr3, hr4⟩ := (unhide RD).pt (unhide Mv)
      have RV1 := hide hr1
      have RV := hide hr4
      have BV := hide ((unhide BD) r hr2)
      have al : Below wr.heap.size wr (wr.alloc (.cells #[.bool v.1.lo.num.g, .slice v.1.lo.num.a v.1.lo.num.n v.1.lo.num.c, .bool v.1.lo.den.g, .slice v.1.lo.den.a v.1.lo.den.n v.1.lo.den.c, .bool v.1.hi.num.g, .slice v.1.hi.num.a v.1.hi.num.n v.1.hi.num.c, .bool v.1.hi.den.g, .slice v.1.hi.den.a v.1.hi.den.n v.1.hi.den.c] 34)) := (Below.refl _ _).alloc (Nat.le_refl _) _
      have SMb := hide ((unhide SM).later al)
      have HBb : Hid (But S (S + 1) ws (wr.alloc (.cells #[.bool v.1.lo.num.g, .slice v.1.lo.num.a v.1.lo.num.n v.1.lo.num.c, .bool v.1.lo.den.g, .slice v.1.lo.den.a v.1.lo.den.n v.1.lo.den.c, .bool v.1.hi.num.g, .slice v.1.hi.num.a v.1.hi.num.n v.1.hi.num.c, .bool v.1.hi.den.g, .slice v.1.hi.den.a v.1.hi.den.n v.1.hi.den.c] 34))) := hide ((unhide HBo).trans (but_of_below al))
      have HBx : Hid (Below w.heap.size w (wr.alloc (.cells #[.bool v.1.lo.num.g, .slice v.1.lo.num.a v.1.lo.num.n v.1.lo.num.c, .bool v.1.lo.den.g, .slice v.1.lo.den.a v.1.lo.den.n v.1.lo.den.c, .bool v.1.hi.num.g, .slice v.1.hi.num.a v.1.hi.num.n v.1.hi.num.c, .bool v.1.hi.den.g, .slice v.1.hi.den.a v.1.hi.den.n v.1.hi.den.c] 34))) := hide (below_on (unhide HBw) al)
      have BX : Hid ((wr.alloc (.cells #[.bool v.1.lo.num.g, .slice v.1.lo.num.a v.1.lo.num.n v.1.lo.num.c, .bool v.1.lo.den.g, .slice v.1.lo.den.a v.1.lo.den.n v.1.lo.den.c, .bool v.1.hi.num.g, .slice v.1.hi.num.a v.1.hi.num.n v.1.hi.num.c, .bool v.1.hi.den.g, .slice v.1.hi.den.a v.1.hi.den.n v.1.hi.den.c] 34)).cell? ⟨wr.heap.size, 0, none⟩ = some (.bool v.1.lo.num.g) ∧ (wr.alloc (.cells #[.bool v.1.lo.num.g, .slice v.1.lo.num.a v.1.lo.num.n v.1.lo.num.c, .bool v.1.lo.den.g, .slice v.1.lo.den.a v.1.lo.den.n v.1.lo.den.c, .bool v.1.hi.num.g, .slice v.1.hi.num.a v.1.hi.num.n v.1.hi.num.c, .bool v.1.hi.den.g, .slice v.1.hi.den.a v.1.hi.den.n v.1.hi.den.c] 34)).cell? ⟨wr.heap.size, 1, none⟩ = some (.slice v.1.lo.num.a v.1.lo.num.n v.1.lo.num.c) ∧ (wr.alloc (.cells #[.bool v.1.lo.num.g, .slice v.1.lo.num.a v.1.lo.num.n v.1.lo.num.c, .bool v.1.lo.den.g, .slice v.1.lo.den.a v.1.lo.den.n v.1.lo.den.c, .bool v.1.hi.num.g, .slice v.1.hi.num.a v.1.hi.num.n v.1.hi.num.c, .bool v.1.hi.den.g, .slice v.1.hi.den.a v.1.hi.den.n v.1.hi.den.c] 34)).cell? ⟨wr.heap.size, 2, none⟩ = some (.bool v.1.lo.den.g) ∧ (wr.alloc (.cells #[.bool v.1.lo.num.g, .slice v.1.lo.num.a v.1.lo.num.n v.1.lo.num.c, .bool v.1.lo.den.g, .slice v.1.lo.den.a v.1.lo.den.n v.1.lo.den.c, .bool v.1.hi.num.g, .slice v.1.hi.num.a v.1.hi.num.n v.1.hi.num.c, .bool v.1.hi.den.g, .slice v.1.hi.den.a v.1.hi.den.n v.1.hi.den.c] 34)).cell? ⟨wr.heap.size, 3, none⟩ = some (.slice v.1.lo.den.a v.1.lo.den.n v.1.lo.den.c) ∧ (wr.alloc (.cells #[.bool v.1.lo.num.g, .slice v.1.lo.num.a v.1.lo.num.n v.1.lo.num.c, .bool v.1.lo.den.g, .slice v.1.lo.den.a v.1.lo.den.n v.1.lo.den.c, .bool v.1.hi.num.g, .slice v.1.hi.num.a v.1.hi.num.n v.1.hi.num.c, .bool v.1.hi.den.g, .slice v.1.hi.den.a v.1.hi.den.n v.1.hi.den.c] 34)).cell? ⟨wr.heap.size, 4, none⟩ = some (.bool v.1.hi.num.g) ∧ (wr.alloc (.cells #[.bool v.1.lo.num.g, .slice v.1.lo.num.a v.1.lo.num.n v.1.lo.num.c, .bool v.1.lo.den.g, .slice v.1.lo.den.a v.1.lo.den.n v.1.lo.den.c, .bool v.1.hi.num.g, .slice v.1.hi.num.a v.1.hi.num.n v.1.hi.num.c, .bool v.1.hi.den.g, .slice v.1.hi.den.a v.1.hi.den.n v.1.hi.den.c] 34)).cell? ⟨wr.heap.size, 5, none⟩ = some (.slice v.1.hi.num.a v.1.hi.num.n v.1.hi.num.c) ∧ (wr.alloc (.cells #[.bool v.1.lo.num.g, .slice v.1.lo.num.a v.1.lo.num.n v.1.lo.num.c, .bool v.1.lo.den.g, .slice v.1.lo.den.a v.1.lo.den.n v.1.lo.den.c, .bool v.1.hi.num.g, .slice v.1.hi.num.a v.1.hi.num.n v.1.hi.num.c, .bool v.1.hi.den.g, .slice v.1.hi.den.a v.1.hi.den.n v.1.hi.den.c] 34)).cell? ⟨wr.heap.size, 6, none⟩ = some (.bool v.1.hi.den.g) ∧ (wr.alloc (.cells #[.bool v.1.lo.num.g, .slice v.1.lo.num.a v.1.lo.num.n v.1.lo.num.c, .bool v.1.lo.den.g, .slice v.1.lo.den.a v.1.lo.den.n v.1.lo.den.c, .bool v.1.hi.num.g, .slice v.1.hi.num.a v.1.hi.num.n v.1.hi.num.c, .bool v.1.hi.den.g, .slice v.1.hi.den.a v.1.hi.den.n v.1.hi.den.c] 34)).cell? ⟨wr.heap.size, 7, none⟩ = some (.slice v.1.hi.den.a v.1.hi.den.n v.1.hi.den.c)) := hide (by refine ⟨?_, ?_, ?_, ?_, ?_, ?_, ?_, ?_⟩ <;> simp [go_sem])
      have szb : wr.heap.size + 1 = (wr.alloc (.cells #[.bool v.1.lo.num.g, .slice v.1.lo.num.a v.1.lo.num.n v.1.lo.num.c, .bool v.1.lo.den.g, .slice v.1.lo.den.a v.1.lo.den.n v.1.lo.den.c, .bool v.1.hi.num.g, .slice v.1.hi.num.a v.1.hi.num.n v.1.hi.num.c, .bool v.1.hi.den.g, .slice v.1.hi.den.a v.1.hi.den.n v.1.hi.den.c] 34)).heap.size := by simp
      have sSr := (unhide SM).lt
      have szo := (unhide HBo).size
      have szo2 := (unhide HBw).size
      clear hr1 hr2 hr3 hr4 al
      have j4 : (0 : Int) ≤ (j : Int) := by omega
      have j5 : (j : Int) ≤ (n : Int) := by omega
      have j6 : (j : Int) ≤ (c : Int) := by omega
      have j7 : j ≤ c := by omega
      go_upto_region 5 with fail
      clear E0 E1 E2 E3 E4 E5 E6 E7 SM HBo HBw
      generalize (wr.alloc (.cells #[.bool v.1.lo.num.g, .slice v.1.lo.num.a v.1.lo.num.n v.1.lo.num.c, .bool v.1.lo.den.g, .slice v.1.lo.den.a v.1.lo.den.n v.1.lo.den.c, .bool v.1.hi.num.g, .slice v.1.hi.num.a v.1.hi.num.n v.1.hi.num.c, .bool v.1.hi.den.g, .slice v.1.hi.den.a v.1.hi.den.n v.1.hi.den.c] 34)) = wb at *
      generalize wr.heap.size = Bb at *
      go_wp2
      go_loopw [20] (fun iv wr => ∃ (i : Nat) (q : QV), i ≤ j ∧ iv = .int .i64 i ∧ Hid (SmB w.heap.size S wr q (inI ps j (outI ps j) i)) ∧ Hid (But S (S + 1) wb wr) ∧ Hid (Below w.heap.size w wr)) (fun iv _ => j - (intOf iv).toNat)
      case atStart => exact ⟨0, q, Nat.zero_le _, rfl, SMb, hide (But.refl _ _ _), HBx⟩
      case round =>
        clear SMb HBx
        obtain ⟨i, q, hi', rfl, SM, HBi, HBw⟩ := hrel
        by_cases hil : i < j
        · have hil' : (i : Int) < (j : Int) := by omega
          have hix : i < n := by omega
          have hcb := unhide HC
          have hb := hbb
          have e0 := hcb i (by rw [unhide HN]; exact hix)
          obtain ⟨y, hy⟩ : ∃ y, y = l[i]'(by rw [unhide HN]; exact hix) := ⟨_, rfl⟩
          rw [← hy] at e0
          have My : Hid (l[i]? = some y) := hide (by rw [hy]; exact List.getElem?_eq_getElem _)
          clear hy
          have E0 : wr.cell? ⟨b, off + i * 8, none⟩ = some (.bool y.1.lo.num.g) := ((unhide HBw).cell (p := ⟨b, off + i * 8, none⟩) hb).trans (e0.1)
          have E1 : wr.cell? ⟨b, off + i * 8 + 1, none⟩ = some (.slice y.1.lo.num.a y.1.lo.num.n y.1.lo.num.c) := ((unhide HBw).cell (p := ⟨b, off + i * 8 + 1, none⟩) hb).trans (e0.2.1)
          have E2 : wr.cell? ⟨b, off + i * 8 + 2, none⟩ = some (.bool y.1.lo.den.g) := ((unhide HBw).cell (p := ⟨b, off + i * 8 + 2, none⟩) hb).trans (e0.2.2.1)
          have E3 : wr.cell? ⟨b, off + i * 8 + 3, none⟩ = some (.slice y.1.lo.den.a y.1.lo.den.n y.1.lo.den.c) := ((unhide HBw).cell (p := ⟨b, off + i * 8 + 3, none⟩) hb).trans (e0.2.2.2.1)
          have E4 : wr.cell? ⟨b, off + i * 8 + 4, none⟩ = some (.bool y.1.hi.num.g) := ((unhide HBw).cell (p := ⟨b, off + i * 8 + 4, none⟩) hb).trans (e0.2.2.2.2.1)
          have E5 : wr.cell? ⟨b, off + i * 8 + 5, none⟩ = some (.slice y.1.hi.num.a y.1.hi.num.n y.1.hi.num.c) := ((unhide HBw).cell (p := ⟨b, off + i * 8 + 5, none⟩) hb).trans (e0.2.2.2.2.2.1)
          have E6 : wr.cell? ⟨b, off + i * 8 + 6, none⟩ = some (.bool y.1.hi.den.g) := ((unhide HBw).cell (p := ⟨b, off + i * 8 + 6, none⟩) hb).trans (e0.2.2.2.2.2.2.1)
          have E7 : wr.cell? ⟨b, off + i * 8 + 7, none⟩ = some (.slice y.1.hi.den.a y.1.hi.den.n y.1.hi.den.c) := ((unhide HBw).cell (p := ⟨b, off + i * 8 + 7, none⟩) hb).trans (e0.2.2.2.2.2.2.2)
          clear e0
          clear hcb
          obtain ⟨p, hp1, hp2, hp3, hp4⟩ := (unhide RD).pt (unhide My)
          have al : Below wr.heap.size wr (wr.alloc (.cells #[.bool y.1.lo.num.g, .slice y.1.lo.num.a y.1.lo.num.n y.1.lo.num.c, .bool y.1.lo.den.g, .slice y.1.lo.den.a y.1.lo.den.n y.1.lo.den.c, .bool y.1.hi.num.g, .slice y.1.hi.num.a y.1.hi.num.n y.1.hi.num.c, .bool y.1.hi.den.g, .slice y.1.hi.den.a y.1.hi.den.n y.1.hi.den.c] 34)) := (Below.refl _ _).alloc (Nat.le_refl _) _
          have PV := hide hp1
          have BP := hide ((unhide BD) p hp2)
          have IP0 := hide (hp4.later (unhide HBw))
          have SM0 := hide ((unhide SM).later al)
          have HBz : Hid (But S (S + 1) wb (wr.alloc (.cells #[.bool y.1.lo.num.g, .slice y.1.lo.num.a y.1.lo.num.n y.1.lo.num.c, .bool y.1.lo.den.g, .slice y.1.lo.den.a y.1.lo.den.n y.1.lo.den.c, .bool y.1.hi.num.g, .slice y.1.hi.num.a y.1.hi.num.n y.1.hi.num.c, .bool y.1.hi.den.g, .slice y.1.hi.den.a y.1.hi.den.n y.1.hi.den.c] 34))) := hide ((unhide HBi).trans (but_of_below al))
          have HBy : Hid (Below w.heap.size w (wr.alloc (.cells #[.bool y.1.lo.num.g, .slice y.1.lo.num.a y.1.lo.num.n y.1.lo.num.c, .bool y.1.lo.den.g, .slice y.1.lo.den.a y.1.lo.den.n y.1.lo.den.c, .bool y.1.hi.num.g, .slice y.1.hi.num.a y.1.hi.num.n y.1.hi.num.c, .bool y.1.hi.den.g, .slice y.1.hi.den.a y.1.hi.den.n y.1.hi.den.c] 34))) := hide (below_on (unhide HBw) al)
          have IP := hide ((unhide IP0).later al)
          have IV := hide ((unhide RV).later (unhide HBy))
          have IS := hide (unhide SM0).ow.is
          have bs := inI_bd (unhide BD) (by rw [unhide LP]; omega) (j := j) (by rw [unhide LP]; exact hlt) (outI_bd (unhide BD) (by rw [unhide LP]; omega) j (by rw [unhide LP]; omega)) i (by omega)
          have BS := hide (bs.mono (show 1 + 1000 * j + 195 * i ≤ 9000 by omega))
          have BC : Hid (BdR (p.1 * r.2 - r.1 * p.2) 193) := hide ((((unhide BP).x.mul (unhide BV).y).sub ((unhide BV).x.mul (unhide BP).y)).mono (by omega))
          have BZ : Hid (BdR (Rat.divInt ((j : Int) - (i : Int)) (2 * ((i : Int) + (j : Int)))) 1) := hide (bdR_div (by omega) (by omega) (by omega) (by omega) (by omega))
          have y1_0 : (wr.alloc (.cells #[.bool y.1.lo.num.g, .slice y.1.lo.num.a y.1.lo.num.n y.1.lo.num.c, .bool y.1.lo.den.g, .slice y.1.lo.den.a y.1.lo.den.n y.1.lo.den.c, .bool y.1.hi.num.g, .slice y.1.hi.num.a y.1.hi.num.n y.1.hi.num.c, .bool y.1.hi.den.g, .slice y.1.hi.den.a y.1.hi.den.n y.1.hi.den.c] 34)).cell? ⟨wr.heap.size, 0, none⟩ = some (.bool y.1.lo.num.g) := by simp [go_sem]
          have y1_1 : (wr.alloc (.cells #[.bool y.1.lo.num.g, .slice y.1.lo.num.a y.1.lo.num.n y.1.lo.num.c, .bool y.1.lo.den.g, .slice y.1.lo.den.a y.1.lo.den.n y.1.lo.den.c, .bool y.1.hi.num.g, .slice y.1.hi.num.a y.1.hi.num.n y.1.hi.num.c, .bool y.1.hi.den.g, .slice y.1.hi.den.a y.1.hi.den.n y.1.hi.den.c] 34)).cell? ⟨wr.heap.size, 1, none⟩ = some (.slice y.1.lo.num.a y.1.lo.num.n y.1.lo.num.c) := by simp [go_sem]
          have y1_2 : (wr.alloc (.cells #[.bool y.1.lo.num.g, .slice y.1.lo.num.a y.1.lo.num.n y.1.lo.num.c, .bool y.1.lo.den.g, .slice y.1.lo.den.a y.1.lo.den.n y.1.lo.den.c, .bool y.1.hi.num.g, .slice y.1.hi.num.a y.1.hi.num.n y.1.hi.num.c, .bool y.1.hi.den.g, .slice y.1.hi.den.a y.1.hi.den.n y.1.hi.den.c] 34)).cell? ⟨wr.heap.size, 2, none⟩ = some (.bool y.1.lo.den.g) := by simp [go_sem]
          have y1_3 : (wr.alloc (.cells #[.bool y.1.lo.num.g, .slice y.1.lo.num.a y.1.lo.num.n y.1.lo.num.c, .bool y.1.lo.den.g, .slice y.1.lo.den.a y.1.lo.den.n y.1.lo.den.c, .bool y.1.hi.num.g, .slice y.1.hi.num.a y.1.hi.num.n y.1.hi.num.c, .bool y.1.hi.den.g, .slice y.1.hi.den.a y.1.hi.den.n y.1.hi.den.c] 34)).cell? ⟨wr.heap.size, 3, none⟩ = some (.slice y.1.lo.den.a y.1.lo.den.n y.1.lo.den.c) := by simp [go_sem]
          have y1_4 : (wr.alloc (.cells #[.bool y.1.lo.num.g, .slice y.1.lo.num.a y.1.lo.num.n y.1.lo.num.c, .bool y.1.lo.den.g, .slice y.1.lo.den.a y.1.lo.den.n y.1.lo.den.c, .bool y.1.hi.num.g, .slice y.1.hi.num.a y.1.hi.num.n y.1.hi.num.c, .bool y.1.hi.den.g, .slice y.1.hi.den.a y.1.hi.den.n y.1.hi.den.c] 34)).cell? ⟨wr.heap.size, 4, none⟩ = some (.bool y.1.hi.num.g) := by simp [go_sem]
          have y1_5 : (wr.alloc (.cells #[.bool y.1.lo.num.g, .slice y.1.lo.num.a y.1.lo.num.n y.1.lo.num.c, .bool y.1.lo.den.g, .slice y.1.lo.den.a y.1.lo.den.n y.1.lo.den.c, .bool y.1.hi.num.g, .slice y.1.hi.num.a y.1.hi.num.n y.1.hi.num.c, .bool y.1.hi.den.g, .slice y.1.hi.den.a y.1.hi.den.n y.1.hi.den.c] 34)).cell? ⟨wr.heap.size, 5, none⟩ = some (.slice y.1.hi.num.a y.1.hi.num.n y.1.hi.num.c) := by simp [go_sem]
          have y1_6 : (wr.alloc (.cells #[.bool y.1.lo.num.g, .slice y.1.lo.num.a y.1.lo.num.n y.1.lo.num.c, .bool y.1.lo.den.g, .slice y.1.lo.den.a y.1.lo.den.n y.1.lo.den.c, .bool y.1.hi.num.g, .slice y.1.hi.num.a y.1.hi.num.n y.1.hi.num.c, .bool y.1.hi.den.g, .slice y.1.hi.den.a y.1.hi.den.n y.1.hi.den.c] 34)).cell? ⟨wr.heap.size, 6, none⟩ = some (.bool y.1.hi.den.g) := by simp [go_sem]
          have y1_7 : (wr.alloc (.cells #[.bool y.1.lo.num.g, .slice y.1.lo.num.a y.1.lo.num.n y.1.lo.num.c, .bool y.1.lo.den.g, .slice y.1.lo.den.a y.1.lo.den.n y.1.lo.den.c, .bool y.1.hi.num.g, .slice y.1.hi.num.a y.1.hi.num.n y.1.hi.num.c, .bool y.1.hi.den.g, .slice y.1.hi.den.a y.1.hi.den.n y.1.hi.den.c] 34)).cell? ⟨wr.heap.size, 7, none⟩ = some (.slice y.1.hi.den.a y.1.hi.den.n y.1.hi.den.c) := by simp [go_sem]
          have szp : wr.heap.size + 1 = (wr.alloc (.cells #[.bool y.1.lo.num.g, .slice y.1.lo.num.a y.1.lo.num.n y.1.lo.num.c, .bool y.1.lo.den.g, .slice y.1.lo.den.a y.1.lo.den.n y.1.lo.den.c, .bool y.1.hi.num.g, .slice y.1.hi.num.a y.1.hi.num.n y.1.hi.num.c, .bool y.1.hi.den.g, .slice y.1.hi.den.a y.1.hi.den.n y.1.hi.den.c] 34)).heap.size := by simp
          have sSr := (unhide SM).lt
          have szw := (unhide HBi).size
          clear hp1 hp2 hp3 hp4 al bs
          have iw1 : IntKind.i64.wrap ((j : Int) - (i : Int)) = (j : Int) - (i : Int) := by rw [IntKind.wrap_i64] <;> omega
          have iw2 : IntKind.i64.wrap ((i : Int) + (j : Int)) = (i : Int) + (j : Int) := by rw [IntKind.wrap_i64] <;> omega
          have iw3 : IntKind.i64.wrap (2 * ((i : Int) + (j : Int))) = 2 * ((i : Int) + (j : Int)) := by rw [IntKind.wrap_i64] <;> omega
          have q4 : (0 : Int) ≤ (i : Int) := by omega
          have q5 : (i : Int) < (n : Int) := by omega
          go_upto_region 8 with fail
          have k1_0 := y1_0
          have k1_1 := y1_1
          have k1_2 := y1_2
          have k1_3 := y1_3
          have k1_4 := y1_4
          have k1_5 := y1_5
          have k1_6 := y1_6
          have k1_7 := y1_7
          clear y1_0 y1_1 y1_2 y1_3 y1_4 y1_5 y1_6 y1_7 E0 E1 E2 E3 E4 E5 E6 E7 IP0 SM HBi HBw
          generalize (wr.alloc (.cells #[.bool y.1.lo.num.g, .slice y.1.lo.num.a y.1.lo.num.n y.1.lo.num.c, .bool y.1.lo.den.g, .slice y.1.lo.den.a y.1.lo.den.n y.1.lo.den.c, .bool y.1.hi.num.g, .slice y.1.hi.num.a y.1.hi.num.n y.1.hi.num.c, .bool y.1.hi.den.g, .slice y.1.hi.den.a y.1.hi.den.n y.1.hi.den.c] 34)) = wp at *
          generalize wr.heap.size = Ba at *
          have k0_0 := (unhide SM0).c0
          have k0_1 := (unhide SM0).c1
          have k0_2 := (unhide SM0).c2
          have k0_3 := (unhide SM0).c3
          have fz0 := (unhide SM0).fz
          have k2_0 := (unhide HBz).cell (unhide BX).1 (.inr (by omega))
          have k2_1 := (unhide HBz).cell (unhide BX).2.1 (.inr (by omega))
          have k2_2 := (unhide HBz).cell (unhide BX).2.2.1 (.inr (by omega))
          have k2_3 := (unhide HBz).cell (unhide BX).2.2.2.1 (.inr (by omega))
          have k2_4 := (unhide HBz).cell (unhide BX).2.2.2.2.1 (.inr (by omega))
          have k2_5 := (unhide HBz).cell (unhide BX).2.2.2.2.2.1 (.inr (by omega))
          have k2_6 := (unhide HBz).cell (unhide BX).2.2.2.2.2.2.1 (.inr (by omega))
          have k2_7 := (unhide HBz).cell (unhide BX).2.2.2.2.2.2.2 (.inr (by omega))
          have ne1_0 : Ba ≠ S := by omega
          have ne2_0 : Bb ≠ S := by omega
          have kd0_0 := cd_other k0_0
          have kd0_1 := cd_other k0_1
          have kd0_2 := cd_other k0_2
          have kd0_3 := cd_other k0_3
          have kd1_0 := cd_other k1_0
          have kd1_1 := cd_other k1_1
          have kd1_2 := cd_other k1_2
          have kd1_3 := cd_other k1_3
          have kd1_4 := cd_other k1_4
          have kd1_5 := cd_other k1_5
          have kd1_6 := cd_other k1_6
          have kd1_7 := cd_other k1_7
          have kd2_0 := cd_other k2_0
          have kd2_1 := cd_other k2_1
          have kd2_2 := cd_other k2_2
          have kd2_3 := cd_other k2_3
          have kd2_4 := cd_other k2_4
          have kd2_5 := cd_other k2_5
          have kd2_6 := cd_other k2_6
          have kd2_7 := cd_other k2_7
          go_region_with (first
            | (go_at_call 112; refine (addRI q x5 (inI ps j (outI ps j) i) ((p.1 * r.2 - r.1 * p.2) * Rat.divInt ((j : Int) - (i : Int)) (2 * ((i : Int) + (j : Int)))) _ ?_ ?_ ((unhide BS).mono (by omega)) (((unhide BC).mul (unhide BZ)).mono (by omega))).mono ?_; exact (unhide IS).later (Below.refl _ _); exact (unhide X5).later (Below.refl _ _); rintro e w6 ⟨x6, la6, lb6, rfl, hb, o6, a6, m6, n6⟩; have hbx : Below w5.heap.size w5 w6 := hb; replace fz0 := fun o => frozen_later hbx (World.block_lt_of_cell? _ _ k0_0) (fz0 o); have szw6 := hbx.size; replace k0_0 := cell_later hbx k0_0; replace k0_1 := cell_later hbx k0_1; replace k0_2 := cell_later hbx k0_2; replace k0_3 := cell_later hbx k0_3; replace k1_0 := cell_later hbx k1_0; replace k1_1 := cell_later hbx k1_1; replace k1_2 := cell_later hbx k1_2; replace k1_3 := cell_later hbx k1_3; replace k1_4 := cell_later hbx k1_4; replace k1_5 := cell_later hbx k1_5; replace k1_6 := cell_later hbx k1_6; replace k1_7 := cell_later hbx k1_7; replace k2_0 := cell_later hbx k2_0; replace k2_1 := cell_later hbx k2_1; replace k2_2 := cell_later hbx k2_2; replace k2_3 := cell_later hbx k2_3; replace k2_4 := cell_later hbx k2_4; replace k2_5 := cell_later hbx k2_5; replace k2_6 := cell_later hbx k2_6; replace k2_7 := cell_later hbx k2_7; replace IP := hide ((unhide IP).later hbx); replace IV := hide ((unhide IV).later hbx); replace IS := hide ((unhide IS).later hbx); replace X1 := hide ((unhide X1).later hbx); replace IB1 := hide ((unhide IB1).later hbx); replace IB2 := hide ((unhide IB2).later hbx); replace X4 := hide ((unhide X4).later hbx); replace X5 := hide ((unhide X5).later hbx); have FR := hide (below_on (below_on (below_on (below_on (below_on (unhide F1) (unhide F2)) (unhide F3)) (unhide F4)) (unhide F5)) hbx); have O6 := hide (owR_of (lo := w5.heap.size) (x := inI ps j (outI ps j) i + (p.1 * r.2 - r.1 * p.2) * Rat.divInt ((j : Int) - (i : Int)) (2 * ((i : Int) + (j : Int)))) o6 a6 m6 n6); have fs6 := hbx.size; have HBr := hide (below_on (unhide HBr) hbx); clear hbx hb o6 a6 m6 n6)
            | (go_at_call 104; refine (mulRI x1 x4 (p.1 * r.2 - r.1 * p.2) (Rat.divInt ((j : Int) - (i : Int)) (2 * ((i : Int) + (j : Int)))) _ ?_ ?_ ((unhide BC).mono (by omega)) ((unhide BZ).mono (by omega))).mono ?_; exact (unhide X1).later (Below.refl _ _); exact (unhide X4).later (Below.refl _ _); rintro e w5 ⟨x5, la5, lb5, rfl, hb, o5, a5, m5, n5⟩; have hbx : Below w4.heap.size w4 w5 := hb; replace fz0 := fun o => frozen_later hbx (World.block_lt_of_cell? _ _ k0_0) (fz0 o); have szw5 := hbx.size; replace k0_0 := cell_later hbx k0_0; replace k0_1 := cell_later hbx k0_1; replace k0_2 := cell_later hbx k0_2; replace k0_3 := cell_later hbx k0_3; replace k1_0 := cell_later hbx k1_0; replace k1_1 := cell_later hbx k1_1; replace k1_2 := cell_later hbx k1_2; replace k1_3 := cell_later hbx k1_3; replace k1_4 := cell_later hbx k1_4; replace k1_5 := cell_later hbx k1_5; replace k1_6 := cell_later hbx k1_6; replace k1_7 := cell_later hbx k1_7; replace k2_0 := cell_later hbx k2_0; replace k2_1 := cell_later hbx k2_1; replace k2_2 := cell_later hbx k2_2; replace k2_3 := cell_later hbx k2_3; replace k2_4 := cell_later hbx k2_4; replace k2_5 := cell_later hbx k2_5; replace k2_6 := cell_later hbx k2_6; replace k2_7 := cell_later hbx k2_7; replace IP := hide ((unhide IP).later hbx); replace IV := hide ((unhide IV).later hbx); replace IS := hide ((unhide IS).later hbx); replace X1 := hide ((unhide X1).later hbx); replace IB1 := hide ((unhide IB1).later hbx); replace IB2 := hide ((unhide IB2).later hbx); replace X4 := hide ((unhide X4).later hbx); have F5 := hide hbx; have fs5 := hbx.size; have X5 := hide (isR_of (x := (p.1 * r.2 - r.1 * p.2) * Rat.divInt ((j : Int) - (i : Int)) (2 * ((i : Int) + (j : Int)))) a5 m5 n5); have HBr := hide (below_on (unhide HBr) hbx); clear hbx hb o5 a5 m5 n5)
            | (go_at_call 101; refine (lowRI b1 b2 ((j : Int) - (i : Int)) (2 * ((i : Int) + (j : Int))) _ ?_ ?_ (by omega) (by omega) (by omega) (by omega) (by omega)).mono ?_; exact (unhide IB1).later (Below.refl _ _); exact (unhide IB2).later (Below.refl _ _); rintro e w4 ⟨x4, la4, lb4, rfl, hb, o4, a4, m4, n4⟩; have hbx : Below w3.heap.size w3 w4 := hb; replace fz0 := fun o => frozen_later hbx (World.block_lt_of_cell? _ _ k0_0) (fz0 o); have szw4 := hbx.size; replace k0_0 := cell_later hbx k0_0; replace k0_1 := cell_later hbx k0_1; replace k0_2 := cell_later hbx k0_2; replace k0_3 := cell_later hbx k0_3; replace k1_0 := cell_later hbx k1_0; replace k1_1 := cell_later hbx k1_1; replace k1_2 := cell_later hbx k1_2; replace k1_3 := cell_later hbx k1_3; replace k1_4 := cell_later hbx k1_4; replace k1_5 := cell_later hbx k1_5; replace k1_6 := cell_later hbx k1_6; replace k1_7 := cell_later hbx k1_7; replace k2_0 := cell_later hbx k2_0; replace k2_1 := cell_later hbx k2_1; replace k2_2 := cell_later hbx k2_2; replace k2_3 := cell_later hbx k2_3; replace k2_4 := cell_later hbx k2_4; replace k2_5 := cell_later hbx k2_5; replace k2_6 := cell_later hbx k2_6; replace k2_7 := cell_later hbx k2_7; replace IP := hide ((unhide IP).later hbx); replace IV := hide ((unhide IV).later hbx); replace IS := hide ((unhide IS).later hbx); replace X1 := hide ((unhide X1).later hbx); replace IB1 := hide ((unhide IB1).later hbx); replace IB2 := hide ((unhide IB2).later hbx); have F4 := hide hbx; have fs4 := hbx.size; have X4 := hide (isR_of (x := Rat.divInt ((j : Int) - (i : Int)) (2 * ((i : Int) + (j : Int)))) a4 m4 n4); have HBr := hide (below_on (unhide HBr) hbx); clear hbx hb o4 a4 m4 n4)
            | (have chk := IB1; clear chk; go_at_call 102; refine (bigRI (2 * ((i : Int) + (j : Int))) _ (by omega) (by omega)).mono ?_; rintro e w3 ⟨b2, rfl, hb, ib⟩; have hbx : Below w2.heap.size w2 w3 := hb; replace fz0 := fun o => frozen_later hbx (World.block_lt_of_cell? _ _ k0_0) (fz0 o); have szw3 := hbx.size; replace k0_0 := cell_later hbx k0_0; replace k0_1 := cell_later hbx k0_1; replace k0_2 := cell_later hbx k0_2; replace k0_3 := cell_later hbx k0_3; replace k1_0 := cell_later hbx k1_0; replace k1_1 := cell_later hbx k1_1; replace k1_2 := cell_later hbx k1_2; replace k1_3 := cell_later hbx k1_3; replace k1_4 := cell_later hbx k1_4; replace k1_5 := cell_later hbx k1_5; replace k1_6 := cell_later hbx k1_6; replace k1_7 := cell_later hbx k1_7; replace k2_0 := cell_later hbx k2_0; replace k2_1 := cell_later hbx k2_1; replace k2_2 := cell_later hbx k2_2; replace k2_3 := cell_later hbx k2_3; replace k2_4 := cell_later hbx k2_4; replace k2_5 := cell_later hbx k2_5; replace k2_6 := cell_later hbx k2_6; replace k2_7 := cell_later hbx k2_7; replace IP := hide ((unhide IP).later hbx); replace IV := hide ((unhide IV).later hbx); replace IS := hide ((unhide IS).later hbx); replace X1 := hide ((unhide X1).later hbx); replace IB1 := hide ((unhide IB1).later hbx); have F3 := hide hbx; have fs3 := hbx.size; have IB2 := hide (ib); have HBr := hide (below_on (unhide HBr) hbx); clear hbx hb ib)
            | (go_at_call_of 102 (Value.int IntKind.i64 ((j : Int) - (i : Int))); refine (bigRI ((j : Int) - (i : Int)) _ (by omega) (by omega)).mono ?_; rintro e w2 ⟨b1, rfl, hb, ib⟩; have hbx : Below w1.heap.size w1 w2 := hb; replace fz0 := fun o => frozen_later hbx (World.block_lt_of_cell? _ _ k0_0) (fz0 o); have szw2 := hbx.size; replace k0_0 := cell_later hbx k0_0; replace k0_1 := cell_later hbx k0_1; replace k0_2 := cell_later hbx k0_2; replace k0_3 := cell_later hbx k0_3; replace k1_0 := cell_later hbx k1_0; replace k1_1 := cell_later hbx k1_1; replace k1_2 := cell_later hbx k1_2; replace k1_3 := cell_later hbx k1_3; replace k1_4 := cell_later hbx k1_4; replace k1_5 := cell_later hbx k1_5; replace k1_6 := cell_later hbx k1_6; replace k1_7 := cell_later hbx k1_7; replace k2_0 := cell_later hbx k2_0; replace k2_1 := cell_later hbx k2_1; replace k2_2 := cell_later hbx k2_2; replace k2_3 := cell_later hbx k2_3; replace k2_4 := cell_later hbx k2_4; replace k2_5 := cell_later hbx k2_5; replace k2_6 := cell_later hbx k2_6; replace k2_7 := cell_later hbx k2_7; replace IP := hide ((unhide IP).later hbx); replace IV := hide ((unhide IV).later hbx); replace IS := hide ((unhide IS).later hbx); replace X1 := hide ((unhide X1).later hbx); have F2 := hide hbx; have fs2 := hbx.size; have IB1 := hide (ib); have HBr := hide (below_on (unhide HBr) hbx); clear hbx hb ib)
            | (go_at_call 192; refine (crsP y.1 v.1 p r _ ?_ ((unhide BP).mono (by omega)) ?_ ((unhide BV).mono (by omega))).mono ?_; exact (unhide IP).later (Below.refl _ _).drew; exact (unhide IV).later (Below.refl _ _).drew; rintro e w1 ⟨x1, la1, lb1, rfl, hb, o1, a1, m1, n1⟩; have hbx : Below wp.heap.size wp w1 := below_of_drew hb; replace fz0 := fun o => frozen_later hbx (World.block_lt_of_cell? _ _ k0_0) (fz0 o); have szw1 := hbx.size; replace k0_0 := cell_later hbx k0_0; replace k0_1 := cell_later hbx k0_1; replace k0_2 := cell_later hbx k0_2; replace k0_3 := cell_later hbx k0_3; replace k1_0 := cell_later hbx k1_0; replace k1_1 := cell_later hbx k1_1; replace k1_2 := cell_later hbx k1_2; replace k1_3 := cell_later hbx k1_3; replace k1_4 := cell_later hbx k1_4; replace k1_5 := cell_later hbx k1_5; replace k1_6 := cell_later hbx k1_6; replace k1_7 := cell_later hbx k1_7; replace k2_0 := cell_later hbx k2_0; replace k2_1 := cell_later hbx k2_1; replace k2_2 := cell_later hbx k2_2; replace k2_3 := cell_later hbx k2_3; replace k2_4 := cell_later hbx k2_4; replace k2_5 := cell_later hbx k2_5; replace k2_6 := cell_later hbx k2_6; replace k2_7 := cell_later hbx k2_7; replace IP := hide ((unhide IP).later hbx); replace IV := hide ((unhide IV).later hbx); replace IS := hide ((unhide IS).later hbx); have F1 := hide hbx; have fs1 := hbx.size; have X1 := hide (isR_of (x := p.1 * r.2 - r.1 * p.2) a1 m1 n1); have HBr := hide hbx; clear hbx hb o1 a1 m1 n1))
          all_goals
            (have SM6 : Hid (SmB w.heap.size S ((((w6.setCell ⟨S, 0, none⟩ (.bool x6.num.g)).setCell ⟨S, 1, none⟩ (.slice x6.num.a x6.num.n x6.num.c)).setCell ⟨S, 2, none⟩ (.bool x6.den.g)).setCell ⟨S, 3, none⟩ (.slice x6.den.a x6.den.n x6.den.c)) x6 (inI ps j (outI ps j) (i + 1))) := hide (by
               have h := ((unhide SM0).later (unhide FR)).put (unhide O6) (by omega) (Nat.le_refl _) (by omega)
               have e : inI ps j (outI ps j) (i + 1) = inI ps j (outI ps j) i + (p.1 * r.2 - r.1 * p.2) * Rat.divInt ((j : Int) - (i : Int)) (2 * ((i : Int) + (j : Int))) := by
                 show inI ps j (outI ps j) i + tmI ps j i = _
                 unfold tmI crP pAt
                 rw [unhide PV, unhide RV1]
                 rfl
               rw [e]
               exact h)
             have HB6 : Hid (But S (S + 1) wb ((((w6.setCell ⟨S, 0, none⟩ (.bool x6.num.g)).setCell ⟨S, 1, none⟩ (.slice x6.num.a x6.num.n x6.num.c)).setCell ⟨S, 2, none⟩ (.bool x6.den.g)).setCell ⟨S, 3, none⟩ (.slice x6.den.a x6.den.n x6.den.c))) := hide (((unhide HBz).trans (but_of_below (unhide FR))).trans metQ_but)
             have HW6 : Hid (Below w.heap.size w ((((w6.setCell ⟨S, 0, none⟩ (.bool x6.num.g)).setCell ⟨S, 1, none⟩ (.slice x6.num.a x6.num.n x6.num.c)).setCell ⟨S, 2, none⟩ (.bool x6.den.g)).setCell ⟨S, 3, none⟩ (.slice x6.den.a x6.den.n x6.den.c))) := hide (metQ_but.below (below_on (unhide HBy) (unhide FR)) (by omega) (below_on (unhide HBy) (unhide FR)).size)
             clear k0_0 k0_1 k0_2 k0_3 k1_0 k1_1 k1_2 k1_3 k1_4 k1_5 k1_6 k1_7 k2_0 k2_1 k2_2 k2_3 k2_4 k2_5 k2_6 k2_7 kd0_0 kd0_1 kd0_2 kd0_3 kd1_0 kd1_1 kd1_2 kd1_3 kd1_4 kd1_5 kd1_6 kd1_7 kd2_0 kd2_1 kd2_2 kd2_3 kd2_4 kd2_5 kd2_6 kd2_7 HBr IP IV IS fz0
             go_wp2
             go_roundw
             case rel => exact ⟨i + 1, x6, by omega, by go_num, SM6, HB6, HW6⟩
             case measure => simp [intOf]; omega)
        · obtain rfl : i = j := by omega
          have HB9 := hide ((unhide HBb).trans (unhide HBi))
          clear HBi
          go_wp2
          go_roundw
          case rel => exact ⟨i + 1, q, by omega, by go_num, SM, HB9, HBw⟩
          case measure => simp [intOf]; omega
    · obtain rfl : j = n := by omega
      have sSr := (unhide SM).lt
      have szo := (unhide HBo).size
      have k0_0 := (unhide SM).c0
      have k0_1 := (unhide SM).c1
      have k0_2 := (unhide SM).c2
      have k0_3 := (unhide SM).c3
      have k1_0 := (unhide HBo).cell (unhide HR).1.1 (.inl (by omega))
      have k1_1 := (unhide HBo).cell (unhide HR).1.2.1 (.inl (by omega))
      have k1_2 := (unhide HBo).cell (unhide HR).1.2.2.1 (.inl (by omega))
      have k1_3 := (unhide HBo).cell (unhide HR).1.2.2.2 (.inl (by omega))
      have z1 : ∀ o, wr.frozen? ⟨w.heap.size, o, none⟩ = false := fun o => by
        have := (unhide HBo).block w.heap.size (by omega) (.inl (by omega))
        rw [World.frozen?_of_block (a := ⟨w.heap.size, o, none⟩) this]
        exact (unhide HR).2 o
      go_wp2
      refine bodyPost_ret (v := .agg #[.bool q.num.g, .slice q.num.a q.num.n q.num.c, .bool q.den.g, .slice q.den.a q.den.n q.den.c]) (by simp [results, Tryz.results115, go_sem, k1_0, k1_1, k1_2, k1_3]) rfl ?_
      exact outR_fin (R := w.heap.size) (Nat.le_refl _) (unhide HBw) (metQ_but (w5 := wr) (v := q) (G := w.heap.size)) (unhide SM).ow (Nat.le_refl _) (Nat.le_refl _)
end Go.Proofs.YtikllcoekcglcaaGreat

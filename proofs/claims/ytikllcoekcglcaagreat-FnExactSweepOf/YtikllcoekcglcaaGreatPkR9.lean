/- l12Sweep of the specification, at every good list of points. No condition beyond those typed. Written by mksw13.py. -/
import Derived.Test.YtikllcoekcglcaaGreatPkR6
namespace Go.Proofs.YtikllcoekcglcaaGreat
open Go.RowKit
set_option linter.unusedVariables false
set_option maxRecDepth 100000
set_option linter.unusedSimpArgs false

/-- A sum's box at block S; its limbs lie behind block R. -/
structure SmV (R S : Nat) (w : World) (q : QV) (x : Rat) : Prop where
  c0 : w.cell? ⟨S, 0, none⟩ = some (.bool q.num.g)
  c1 : w.cell? ⟨S, 1, none⟩ = some (.slice q.num.a q.num.n q.num.c)
  c2 : w.cell? ⟨S, 2, none⟩ = some (.bool q.den.g)
  c3 : w.cell? ⟨S, 3, none⟩ = some (.slice q.den.a q.den.n q.den.c)
  fz : ∀ o, w.frozen? ⟨S, o, none⟩ = false
  ow : OwV (R + 1) w.heap.size w q x
theorem SmV.lt {R S : Nat} {w : World} {q : QV} {x : Rat} (h : SmV R S w q x) : S < w.heap.size := World.block_lt_of_cell? _ _ h.c0
theorem SmV.later {R S : Nat} {w w' : World} {q : QV} {x : Rat} (h : SmV R S w q x) (hb : Below w.heap.size w w') : SmV R S w' q x := ⟨cell_later hb h.c0, cell_later hb h.c1, cell_later hb h.c2, cell_later hb h.c3, fun o => frozen_later hb h.lt (h.fz o), (h.ow.later hb).wide (Nat.le_refl _) hb.size⟩
theorem SmV.put {R S lo hi : Nat} {w : World} {q q' : QV} {x x' : Rat} (h : SmV R S w q x) (ho : OwV lo hi w q' x') (h1 : S + 1 ≤ lo) (h2 : hi ≤ w.heap.size) (hR : R + 1 ≤ lo) : SmV R S ((((w.setCell ⟨S, 0, none⟩ (.bool q'.num.g)).setCell ⟨S, 1, none⟩ (.slice q'.num.a q'.num.n q'.num.c)).setCell ⟨S, 2, none⟩ (.bool q'.den.g)).setCell ⟨S, 3, none⟩ (.slice q'.den.a q'.den.n q'.den.c)) q' x' := by
  have bt := metQ_but (w5 := w) (v := q') (G := S)
  have e0 := h.c0
  have e1 := h.c1
  have e2 := h.c2
  have e3 := h.c3
  refine ⟨?_, ?_, ?_, ?_, fun o => ?_, (ho.but bt (.inr h1)).wide hR (Nat.le_trans h2 bt.size)⟩
  · simp [go_sem, e0, e1, e2, e3]
  · simp [go_sem, e0, e1, e2, e3]
  · simp [go_sem, e0, e1, e2, e3]
  · simp [go_sem, e0, e1, e2, e3]
  · have := h.fz o
    simp [go_sem, e0, e1, e2, e3, this]
theorem inZ_step (ps : List (Rat × Rat)) (i : Nat) (s : Rat) {k : Nat} (h : 0 < k) : inZ ps i s (k + 1) = inZ ps i s k + tmS ps i k := by
  match k, h with
  | k + 1, _ => rfl

set_option maxHeartbeats 16000000 in
theorem swpS (a : Option Addr) (n c : Nat) (l : List (SV × SD)) (ps : List (Rat × Rat)) (w : World) (h : RdC w a n c l ps) (hb : BdC ps 2) (h1 : 1 ≤ n) (h5 : n ≤ 5) (ht : TypZ w (zipPS l)) (qs : List (Rat × Rat)) (hqs : qs = pwL ps) :
    Calls Tryz.prog 117 #[.slice a n c] w (OuRv w (outZ qs n n)) := by
  have RD := hide h
  have BD0 := hide hb
  have HT := hide ht
  have LP : Hid (ps.length = n) := hide h.len
  clear h hb ht
  have KB : Hid (Below w.heap.size w (w.alloc (.cells #[.bool false, .slice none 0 0, .bool false, .slice none 0 0] 28))) := hide ((Below.refl _ _).alloc (Nat.le_refl _) _)
  have RC : Hid (((w.alloc (.cells #[.bool false, .slice none 0 0, .bool false, .slice none 0 0] 28)).cell? ⟨w.heap.size, 0, none⟩ = some (.bool false) ∧ (w.alloc (.cells #[.bool false, .slice none 0 0, .bool false, .slice none 0 0] 28)).cell? ⟨w.heap.size, 1, none⟩ = some (.slice none 0 0) ∧ (w.alloc (.cells #[.bool false, .slice none 0 0, .bool false, .slice none 0 0] 28)).cell? ⟨w.heap.size, 2, none⟩ = some (.bool false) ∧ (w.alloc (.cells #[.bool false, .slice none 0 0, .bool false, .slice none 0 0] 28)).cell? ⟨w.heap.size, 3, none⟩ = some (.slice none 0 0)) ∧ ∀ o, (w.alloc (.cells #[.bool false, .slice none 0 0, .bool false, .slice none 0 0] 28)).frozen? ⟨w.heap.size, o, none⟩ = false) := hide (by refine ⟨⟨?_, ?_, ?_, ?_⟩, fun o => ?_⟩ <;> simp [go_sem])
  have sz0 : w.heap.size + 1 = (w.alloc (.cells #[.bool false, .slice none 0 0, .bool false, .slice none 0 0] 28)).heap.size := by simp
  go_enter Tryz.func117, Tryz.ntmps117
  go_upto_region 1 with fail
  generalize (w.alloc (.cells #[.bool false, .slice none 0 0, .bool false, .slice none 0 0] 28)) = wA at *
  have ltR : w.heap.size < wA.heap.size := by omega
  go_wp2_with fail
  refine (powS a n c l ps _ ((unhide RD).later (unhide KB)) (fun p hp => ((unhide BD0) p hp).mono (by omega)) h1 h5 ((unhide HT).later (unhide KB))).mono ?_
  rintro e w1 ⟨a2, n2, c2, l2, rfl, hb1, rd2, ty2⟩
  obtain rfl : n2 = n := by have := rd2.len; rw [pwL_len, unhide LP] at this; exact this.symm
  have BD : Hid (BdC qs 48) := hide (by rw [hqs]; exact pwL_bd2 (unhide BD0) (by rw [unhide LP]; omega))
  rw [← hqs] at rd2
  have LQ : Hid (qs.length = n2) := hide rd2.len
  have RD2 := hide rd2
  have HS2 := hide rd2.ar
  have HN2 := hide rd2.ar.len
  have hcap := rd2.ar.cap
  have htop := rd2.ar.top
  unfold maxLen at htop
  have HB1 := hide hb1
  have s1 := hb1.size
  clear hb1 rd2 ty2 hqs BD0 RD HT LP
  rcases (unhide HS2).at_ with e | ⟨b, off, rfl, hbb, hcb⟩
  · exact absurd (unhide HN2) (by rw [e]; simp <;> omega)
  have HC := hide hcb
  clear hcb
  go_wp2_with fail
  refine (wholeRS 0 _ (by omega) (by omega)).mono ?_
  rintro e w2 ⟨q0, la, lb, rfl, hb2, o1, a1, m1, n1⟩
  have s2 := hb2.size
  have OW := hide (owR_of (x := ((0 : Int) : Rat)) o1 a1 m1 n1).v
  have al : Below w2.heap.size w2 (w2.alloc (.cells #[.bool q0.num.g, .slice q0.num.a q0.num.n q0.num.c, .bool q0.den.g, .slice q0.den.a q0.den.n q0.den.c] 28)) := (Below.refl _ _).alloc (Nat.le_refl _) _
  have SM0 : Hid (SmV w.heap.size w2.heap.size (w2.alloc (.cells #[.bool q0.num.g, .slice q0.num.a q0.num.n q0.num.c, .bool q0.den.g, .slice q0.den.a q0.den.n q0.den.c] 28)) q0 (outZ qs n2 0)) := hide ⟨by simp [go_sem], by simp [go_sem], by simp [go_sem], by simp [go_sem], fun o => by simp [go_sem], ((unhide OW).later al).wide (by omega) al.size⟩
  have HR : Hid (((w2.alloc (.cells #[.bool q0.num.g, .slice q0.num.a q0.num.n q0.num.c, .bool q0.den.g, .slice q0.den.a q0.den.n q0.den.c] 28)).cell? ⟨w.heap.size, 0, none⟩ = some (.bool false) ∧ (w2.alloc (.cells #[.bool q0.num.g, .slice q0.num.a q0.num.n q0.num.c, .bool q0.den.g, .slice q0.den.a q0.den.n q0.den.c] 28)).cell? ⟨w.heap.size, 1, none⟩ = some (.slice none 0 0) ∧ (w2.alloc (.cells #[.bool q0.num.g, .slice q0.num.a q0.num.n q0.num.c, .bool q0.den.g, .slice q0.den.a q0.den.n q0.den.c] 28)).cell? ⟨w.heap.size, 2, none⟩ = some (.bool false) ∧ (w2.alloc (.cells #[.bool q0.num.g, .slice q0.num.a q0.num.n q0.num.c, .bool q0.den.g, .slice q0.den.a q0.den.n q0.den.c] 28)).cell? ⟨w.heap.size, 3, none⟩ = some (.slice none 0 0)) ∧ ∀ o, (w2.alloc (.cells #[.bool q0.num.g, .slice q0.num.a q0.num.n q0.num.c, .bool q0.den.g, .slice q0.den.a q0.den.n q0.den.c] 28)).frozen? ⟨w.heap.size, o, none⟩ = false) := hide ⟨⟨((below_on (below_on (unhide HB1) hb2) al).cell (p := ⟨w.heap.size, 0, none⟩) ltR).trans (unhide RC).1.1, ((below_on (below_on (unhide HB1) hb2) al).cell (p := ⟨w.heap.size, 1, none⟩) ltR).trans (unhide RC).1.2.1, ((below_on (below_on (unhide HB1) hb2) al).cell (p := ⟨w.heap.size, 2, none⟩) ltR).trans (unhide RC).1.2.2.1, ((below_on (below_on (unhide HB1) hb2) al).cell (p := ⟨w.heap.size, 3, none⟩) ltR).trans (unhide RC).1.2.2.2⟩, fun o => frozen_later (below_on (below_on (unhide HB1) hb2) al) ltR ((unhide RC).2 o)⟩
  have HBs : Hid (Below w1.heap.size w1 (w2.alloc (.cells #[.bool q0.num.g, .slice q0.num.a q0.num.n q0.num.c, .bool q0.den.g, .slice q0.den.a q0.den.n q0.den.c] 28))) := hide (below_on hb2 al)
  have KB1 : Hid (Below w.heap.size w w1) := hide (below_on (unhide KB) (unhide HB1))
  have szS : w2.heap.size + 1 = (w2.alloc (.cells #[.bool q0.num.g, .slice q0.num.a q0.num.n q0.num.c, .bool q0.den.g, .slice q0.den.a q0.den.n q0.den.c] 28)).heap.size := by simp
  clear hb2 o1 a1 m1 n1 al OW RC KB HB1
  go_upto_region 3 with fail
  generalize (w2.alloc (.cells #[.bool q0.num.g, .slice q0.num.a q0.num.n q0.num.c, .bool q0.den.g, .slice q0.den.a q0.den.n q0.den.c] 28)) = ws at *
  generalize w2.heap.size = S at *
  go_wp2
  go_loopw [15] (fun iv wr => ∃ (i : Nat) (q : QV), i ≤ n2 ∧ iv = .int .i64 i ∧ Hid (SmV w.heap.size S wr q (outZ qs n2 i)) ∧ Hid (But S (S + 1) ws wr) ∧ Hid (Below w1.heap.size w1 wr)) (fun iv _ => n2 - (intOf iv).toNat)
  case atStart => exact ⟨0, q0, Nat.zero_le _, rfl, SM0, hide (But.refl _ _ _), HBs⟩
  case round =>
    clear SM0 HBs
    obtain ⟨i, q, hi', rfl, SM, HBo, HBw⟩ := hrel
    by_cases hlt : i < n2
    · have hlt' : (i : Int) < (n2 : Int) := by omega
      have hcb := unhide HC
      have hb := hbb
      have e0 := hcb i (by rw [unhide HN2]; exact hlt)
      obtain ⟨v, hv⟩ : ∃ y, y = l2[i]'(by rw [unhide HN2]; exact hlt) := ⟨_, rfl⟩
      rw [← hv] at e0
      have Mv : Hid (l2[i]? = some v) := hide (by rw [hv]; exact List.getElem?_eq_getElem _)
      clear hv
      have E0 : wr.cell? ⟨b, off + i * 8, none⟩ = some (.bool v.1.lo.num.g) := ((unhide HBw).cell (p := ⟨b, off + i * 8, none⟩) hb).trans (e0.1)
      have E1 : wr.cell? ⟨b, off + i * 8 + 1, none⟩ = some (.slice v.1.lo.num.a v.1.lo.num.n v.1.lo.num.c) := ((unhide HBw).cell (p := ⟨b, off + i * 8 + 1, none⟩) hb).trans (e0.2.1)
      have E2 : wr.cell? ⟨b, off + i * 8 + 2, none⟩ = some (.bool v.1.lo.den.g) := ((unhide HBw).cell (p := ⟨b, off + i * 8 + 2, none⟩) hb).trans (e0.2.2.1)
      have E3 : wr.cell? ⟨b, off + i * 8 + 3, none⟩ = some (.slice v.1.lo.den.a v.1.lo.den.n v.1.lo.den.c) := ((unhide HBw).cell (p := ⟨b, off + i * 8 + 3, none⟩) hb).trans (e0.2.2.2.1)
      have E4 : wr.cell? ⟨b, off + i * 8 + 4, none⟩ = some (.bool v.1.hi.num.g) := ((unhide HBw).cell (p := ⟨b, off + i * 8 + 4, none⟩) hb).trans (e0.2.2.2.2.1)
      have E5 : wr.cell? ⟨b, off + i * 8 + 5, none⟩ = some (.slice v.1.hi.num.a v.1.hi.num.n v.1.hi.num.c) := ((unhide HBw).cell (p := ⟨b, off + i * 8 + 5, none⟩) hb).trans (e0.2.2.2.2.2.1)
      have E6 : wr.cell? ⟨b, off + i * 8 + 6, none⟩ = some (.bool v.1.hi.den.g) := ((unhide HBw).cell (p := ⟨b, off + i * 8 + 6, none⟩) hb).trans (e0.2.2.2.2.2.2.1)
      have E7 : wr.cell? ⟨b, off + i * 8 + 7, none⟩ = some (.slice v.1.hi.den.a v.1.hi.den.n v.1.hi.den.c) := ((unhide HBw).cell (p := ⟨b, off + i * 8 + 7, none⟩) hb).trans (e0.2.2.2.2.2.2.2)
      clear e0
      clear hcb
      obtain ⟨r, hr1, hr2, hr3, hr4⟩ := (unhide RD2).pt (unhide Mv)
      have RV1 := hide hr1
      have RV := hide hr4
      have BV := hide ((unhide BD) r hr2)
      have al : Below wr.heap.size wr (wr.alloc (.cells #[.bool v.1.lo.num.g, .slice v.1.lo.num.a v.1.lo.num.n v.1.lo.num.c, .bool v.1.lo.den.g, .slice v.1.lo.den.a v.1.lo.den.n v.1.lo.den.c, .bool v.1.hi.num.g, .slice v.1.hi.num.a v.1.hi.num.n v.1.hi.num.c, .bool v.1.hi.den.g, .slice v.1.hi.den.a v.1.hi.den.n v.1.hi.den.c] 34)) := (Below.refl _ _).alloc (Nat.le_refl _) _
      have SMb := hide ((unhide SM).later al)
      have HBb : Hid (But S (S + 1) ws (wr.alloc (.cells #[.bool v.1.lo.num.g, .slice v.1.lo.num.a v.1.lo.num.n v.1.lo.num.c, .bool v.1.lo.den.g, .slice v.1.lo.den.a v.1.lo.den.n v.1.lo.den.c, .bool v.1.hi.num.g, .slice v.1.hi.num.a v.1.hi.num.n v.1.hi.num.c, .bool v.1.hi.den.g, .slice v.1.hi.den.a v.1.hi.den.n v.1.hi.den.c] 34))) := hide ((unhide HBo).trans (but_of_below al))
      have HBx : Hid (Below w1.heap.size w1 (wr.alloc (.cells #[.bool v.1.lo.num.g, .slice v.1.lo.num.a v.1.lo.num.n v.1.lo.num.c, .bool v.1.lo.den.g, .slice v.1.lo.den.a v.1.lo.den.n v.1.lo.den.c, .bool v.1.hi.num.g, .slice v.1.hi.num.a v.1.hi.num.n v.1.hi.num.c, .bool v.1.hi.den.g, .slice v.1.hi.den.a v.1.hi.den.n v.1.hi.den.c] 34))) := hide (below_on (unhide HBw) al)
      have BX : Hid ((wr.alloc (.cells #[.bool v.1.lo.num.g, .slice v.1.lo.num.a v.1.lo.num.n v.1.lo.num.c, .bool v.1.lo.den.g, .slice v.1.lo.den.a v.1.lo.den.n v.1.lo.den.c, .bool v.1.hi.num.g, .slice v.1.hi.num.a v.1.hi.num.n v.1.hi.num.c, .bool v.1.hi.den.g, .slice v.1.hi.den.a v.1.hi.den.n v.1.hi.den.c] 34)).cell? ⟨wr.heap.size, 0, none⟩ = some (.bool v.1.lo.num.g) ∧ (wr.alloc (.cells #[.bool v.1.lo.num.g, .slice v.1.lo.num.a v.1.lo.num.n v.1.lo.num.c, .bool v.1.lo.den.g, .slice v.1.lo.den.a v.1.lo.den.n v.1.lo.den.c, .bool v.1.hi.num.g, .slice v.1.hi.num.a v.1.hi.num.n v.1.hi.num.c, .bool v.1.hi.den.g, .slice v.1.hi.den.a v.1.hi.den.n v.1.hi.den.c] 34)).cell? ⟨wr.heap.size, 1, none⟩ = some (.slice v.1.lo.num.a v.1.lo.num.n v.1.lo.num.c) ∧ (wr.alloc (.cells #[.bool v.1.lo.num.g, .slice v.1.lo.num.a v.1.lo.num.n v.1.lo.num.c, .bool v.1.lo.den.g, .slice v.1.lo.den.a v.1.lo.den.n v.1.lo.den.c, .bool v.1.hi.num.g, .slice v.1.hi.num.a v.1.hi.num.n v.1.hi.num.c, .bool v.1.hi.den.g, .slice v.1.hi.den.a v.1.hi.den.n v.1.hi.den.c] 34)).cell? ⟨wr.heap.size, 2, none⟩ = some (.bool v.1.lo.den.g) ∧ (wr.alloc (.cells #[.bool v.1.lo.num.g, .slice v.1.lo.num.a v.1.lo.num.n v.1.lo.num.c, .bool v.1.lo.den.g, .slice v.1.lo.den.a v.1.lo.den.n v.1.lo.den.c, .bool v.1.hi.num.g, .slice v.1.hi.num.a v.1.hi.num.n v.1.hi.num.c, .bool v.1.hi.den.g, .slice v.1.hi.den.a v.1.hi.den.n v.1.hi.den.c] 34)).cell? ⟨wr.heap.size, 3, none⟩ = some (.slice v.1.lo.den.a v.1.lo.den.n v.1.lo.den.c) ∧ (wr.alloc (.cells #[.bool v.1.lo.num.g, .slice v.1.lo.num.a v.1.lo.num.n v.1.lo.num.c, .bool v.1.lo.den.g, .slice v.1.lo.den.a v.1.lo.den.n v.1.lo.den.c, .bool v.1.hi.num.g, .slice v.1.hi.num.a v.1.hi.num.n v.1.hi.num.c, .bool v.1.hi.den.g, .slice v.1.hi.den.a v.1.hi.den.n v.1.hi.den.c] 34)).cell? ⟨wr.heap.size, 4, none⟩ = some (.bool v.1.hi.num.g) ∧ (wr.alloc (.cells #[.bool v.1.lo.num.g, .slice v.1.lo.num.a v.1.lo.num.n v.1.lo.num.c, .bool v.1.lo.den.g, .slice v.1.lo.den.a v.1.lo.den.n v.1.lo.den.c, .bool v.1.hi.num.g, .slice v.1.hi.num.a v.1.hi.num.n v.1.hi.num.c, .bool v.1.hi.den.g, .slice v.1.hi.den.a v.1.hi.den.n v.1.hi.den.c] 34)).cell? ⟨wr.heap.size, 5, none⟩ = some (.slice v.1.hi.num.a v.1.hi.num.n v.1.hi.num.c) ∧ (wr.alloc (.cells #[.bool v.1.lo.num.g, .slice v.1.lo.num.a v.1.lo.num.n v.1.lo.num.c, .bool v.1.lo.den.g, .slice v.1.lo.den.a v.1.lo.den.n v.1.lo.den.c, .bool v.1.hi.num.g, .slice v.1.hi.num.a v.1.hi.num.n v.1.hi.num.c, .bool v.1.hi.den.g, .slice v.1.hi.den.a v.1.hi.den.n v.1.hi.den.c] 34)).cell? ⟨wr.heap.size, 6, none⟩ = some (.bool v.1.hi.den.g) ∧ (wr.alloc (.cells #[.bool v.1.lo.num.g, .slice v.1.lo.num.a v.1.lo.num.n v.1.lo.num.c, .bool v.1.lo.den.g, .slice v.1.lo.den.a v.1.lo.den.n v.1.lo.den.c, .bool v.1.hi.num.g, .slice v.1.hi.num.a v.1.hi.num.n v.1.hi.num.c, .bool v.1.hi.den.g, .slice v.1.hi.den.a v.1.hi.den.n v.1.hi.den.c] 34)).cell? ⟨wr.heap.size, 7, none⟩ = some (.slice v.1.hi.den.a v.1.hi.den.n v.1.hi.den.c)) := hide (by refine ⟨?_, ?_, ?_, ?_, ?_, ?_, ?_, ?_⟩ <;> simp [go_sem])
      have szb : wr.heap.size + 1 = (wr.alloc (.cells #[.bool v.1.lo.num.g, .slice v.1.lo.num.a v.1.lo.num.n v.1.lo.num.c, .bool v.1.lo.den.g, .slice v.1.lo.den.a v.1.lo.den.n v.1.lo.den.c, .bool v.1.hi.num.g, .slice v.1.hi.num.a v.1.hi.num.n v.1.hi.num.c, .bool v.1.hi.den.g, .slice v.1.hi.den.a v.1.hi.den.n v.1.hi.den.c] 34)).heap.size := by simp
      have sSr0 := (unhide SM).lt
      have szo := (unhide HBo).size
      have szo2 := (unhide HBw).size
      clear hr1 hr2 hr3 hr4 al
      go_upto_region 6 with fail
      clear E0 E1 E2 E3 E4 E5 E6 E7 SM HBo HBw
      generalize (wr.alloc (.cells #[.bool v.1.lo.num.g, .slice v.1.lo.num.a v.1.lo.num.n v.1.lo.num.c, .bool v.1.lo.den.g, .slice v.1.lo.den.a v.1.lo.den.n v.1.lo.den.c, .bool v.1.hi.num.g, .slice v.1.hi.num.a v.1.hi.num.n v.1.hi.num.c, .bool v.1.hi.den.g, .slice v.1.hi.den.a v.1.hi.den.n v.1.hi.den.c] 34)) = wb at *
      generalize wr.heap.size = Ba at *
      go_wp2
      go_loopw [22] (fun iv wr => ∃ (k : Nat) (q : QV), k ≤ n2 ∧ iv = .int .i64 k ∧ Hid (SmV w.heap.size S wr q (inZ qs i (outZ qs n2 i) k)) ∧ Hid (But S (S + 1) wb wr) ∧ Hid (Below w1.heap.size w1 wr)) (fun iv _ => n2 - (intOf iv).toNat)
      case atStart => exact ⟨0, q, Nat.zero_le _, rfl, SMb, hide (But.refl _ _ _), HBx⟩
      case round =>
        clear SMb HBx
        obtain ⟨k, q, hk', rfl, SM, HBi, HBw⟩ := hrel
        by_cases hkl : k < n2
        · have hkl' : (k : Int) < (n2 : Int) := by omega
          have hcb := unhide HC
          have hb := hbb
          have e0 := hcb k (by rw [unhide HN2]; exact hkl)
          obtain ⟨y, hy⟩ : ∃ y, y = l2[k]'(by rw [unhide HN2]; exact hkl) := ⟨_, rfl⟩
          rw [← hy] at e0
          have My : Hid (l2[k]? = some y) := hide (by rw [hy]; exact List.getElem?_eq_getElem _)
          clear hy
          have E0 : wr.cell? ⟨b, off + k * 8, none⟩ = some (.bool y.1.lo.num.g) := ((unhide HBw).cell (p := ⟨b, off + k * 8, none⟩) hb).trans (e0.1)
          have E1 : wr.cell? ⟨b, off + k * 8 + 1, none⟩ = some (.slice y.1.lo.num.a y.1.lo.num.n y.1.lo.num.c) := ((unhide HBw).cell (p := ⟨b, off + k * 8 + 1, none⟩) hb).trans (e0.2.1)
          have E2 : wr.cell? ⟨b, off + k * 8 + 2, none⟩ = some (.bool y.1.lo.den.g) := ((unhide HBw).cell (p := ⟨b, off + k * 8 + 2, none⟩) hb).trans (e0.2.2.1)
          have E3 : wr.cell? ⟨b, off + k * 8 + 3, none⟩ = some (.slice y.1.lo.den.a y.1.lo.den.n y.1.lo.den.c) := ((unhide HBw).cell (p := ⟨b, off + k * 8 + 3, none⟩) hb).trans (e0.2.2.2.1)
          have E4 : wr.cell? ⟨b, off + k * 8 + 4, none⟩ = some (.bool y.1.hi.num.g) := ((unhide HBw).cell (p := ⟨b, off + k * 8 + 4, none⟩) hb).trans (e0.2.2.2.2.1)
          have E5 : wr.cell? ⟨b, off + k * 8 + 5, none⟩ = some (.slice y.1.hi.num.a y.1.hi.num.n y.1.hi.num.c) := ((unhide HBw).cell (p := ⟨b, off + k * 8 + 5, none⟩) hb).trans (e0.2.2.2.2.2.1)
          have E6 : wr.cell? ⟨b, off + k * 8 + 6, none⟩ = some (.bool y.1.hi.den.g) := ((unhide HBw).cell (p := ⟨b, off + k * 8 + 6, none⟩) hb).trans (e0.2.2.2.2.2.2.1)
          have E7 : wr.cell? ⟨b, off + k * 8 + 7, none⟩ = some (.slice y.1.hi.den.a y.1.hi.den.n y.1.hi.den.c) := ((unhide HBw).cell (p := ⟨b, off + k * 8 + 7, none⟩) hb).trans (e0.2.2.2.2.2.2.2)
          clear e0
          clear hcb
          obtain ⟨p, hp1, hp2, hp3, hp4⟩ := (unhide RD2).pt (unhide My)
          have al : Below wr.heap.size wr (wr.alloc (.cells #[.bool y.1.lo.num.g, .slice y.1.lo.num.a y.1.lo.num.n y.1.lo.num.c, .bool y.1.lo.den.g, .slice y.1.lo.den.a y.1.lo.den.n y.1.lo.den.c, .bool y.1.hi.num.g, .slice y.1.hi.num.a y.1.hi.num.n y.1.hi.num.c, .bool y.1.hi.den.g, .slice y.1.hi.den.a y.1.hi.den.n y.1.hi.den.c] 34)) := (Below.refl _ _).alloc (Nat.le_refl _) _
          have PV := hide hp1
          have BP := hide ((unhide BD) p hp2)
          have SMp := hide ((unhide SM).later al)
          have HBz : Hid (But S (S + 1) wb (wr.alloc (.cells #[.bool y.1.lo.num.g, .slice y.1.lo.num.a y.1.lo.num.n y.1.lo.num.c, .bool y.1.lo.den.g, .slice y.1.lo.den.a y.1.lo.den.n y.1.lo.den.c, .bool y.1.hi.num.g, .slice y.1.hi.num.a y.1.hi.num.n y.1.hi.num.c, .bool y.1.hi.den.g, .slice y.1.hi.den.a y.1.hi.den.n y.1.hi.den.c] 34))) := hide ((unhide HBi).trans (but_of_below al))
          have HBy : Hid (Below w1.heap.size w1 (wr.alloc (.cells #[.bool y.1.lo.num.g, .slice y.1.lo.num.a y.1.lo.num.n y.1.lo.num.c, .bool y.1.lo.den.g, .slice y.1.lo.den.a y.1.lo.den.n y.1.lo.den.c, .bool y.1.hi.num.g, .slice y.1.hi.num.a y.1.hi.num.n y.1.hi.num.c, .bool y.1.hi.den.g, .slice y.1.hi.den.a y.1.hi.den.n y.1.hi.den.c] 34))) := hide (below_on (unhide HBw) al)
          have IP := hide (hp4.later (unhide HBy))
          have IV := hide ((unhide RV).later (unhide HBy))
          have szp : wr.heap.size + 1 = (wr.alloc (.cells #[.bool y.1.lo.num.g, .slice y.1.lo.num.a y.1.lo.num.n y.1.lo.num.c, .bool y.1.lo.den.g, .slice y.1.lo.den.a y.1.lo.den.n y.1.lo.den.c, .bool y.1.hi.num.g, .slice y.1.hi.num.a y.1.hi.num.n y.1.hi.num.c, .bool y.1.hi.den.g, .slice y.1.hi.den.a y.1.hi.den.n y.1.hi.den.c] 34)).heap.size := by simp
          have sSr := (unhide SM).lt
          have szw := (unhide HBi).size
          clear hp1 hp2 hp3 hp4 al
          have q4 : (0 : Int) ≤ (k : Int) := by omega
          by_cases hk0 : 0 < k
          · have hk0' : (0 : Int) < (k : Int) := by omega
            have bs := inZ_bd (unhide BD) (by rw [unhide LQ]; omega) (i := i) (by rw [unhide LQ]; exact hlt) (show BdR (outZ qs n2 i) (1 + 1000 * i) from by have h := outZ_bd (unhide BD) (by rw [unhide LQ]; omega) i (by rw [unhide LQ]; omega); rw [unhide LQ] at h; exact h) k (by rw [unhide LQ]; omega)
            have BS := hide (bs.mono (show 1 + 1000 * i + 195 * k ≤ 9000 by omega))
            have BC : Hid (BdR (r.1 * p.2 - r.2 * p.1) 193) := hide ((((unhide BV).x.mul (unhide BP).y).sub ((unhide BV).y.mul (unhide BP).x)).mono (by omega))
            have BZ : Hid (BdR (Rat.divInt (k : Int) (2 * ((i : Int) + (k : Int)))) 1) := hide (bdR_div (by omega) (by omega) (by omega) (by omega) (by omega))
            have iw2 : IntKind.i64.wrap ((i : Int) + (k : Int)) = (i : Int) + (k : Int) := by rw [IntKind.wrap_i64] <;> omega
            have iw3 : IntKind.i64.wrap (2 * ((i : Int) + (k : Int))) = 2 * ((i : Int) + (k : Int)) := by rw [IntKind.wrap_i64] <;> omega
            have y1_0 : (wr.alloc (.cells #[.bool y.1.lo.num.g, .slice y.1.lo.num.a y.1.lo.num.n y.1.lo.num.c, .bool y.1.lo.den.g, .slice y.1.lo.den.a y.1.lo.den.n y.1.lo.den.c, .bool y.1.hi.num.g, .slice y.1.hi.num.a y.1.hi.num.n y.1.hi.num.c, .bool y.1.hi.den.g, .slice y.1.hi.den.a y.1.hi.den.n y.1.hi.den.c] 34)).cell? ⟨wr.heap.size, 0, none⟩ = some (.bool y.1.lo.num.g) := by simp [go_sem]
            have y1_1 : (wr.alloc (.cells #[.bool y.1.lo.num.g, .slice y.1.lo.num.a y.1.lo.num.n y.1.lo.num.c, .bool y.1.lo.den.g, .slice y.1.lo.den.a y.1.lo.den.n y.1.lo.den.c, .bool y.1.hi.num.g, .slice y.1.hi.num.a y.1.hi.num.n y.1.hi.num.c, .bool y.1.hi.den.g, .slice y.1.hi.den.a y.1.hi.den.n y.1.hi.den.c] 34)).cell? ⟨wr.heap.size, 1, none⟩ = some (.slice y.1.lo.num.a y.1.lo.num.n y.1.lo.num.c) := by simp [go_sem]
            have y1_2 : (wr.alloc (.cells #[.bool y.1.lo.num.g, .slice y.1.lo.num.a y.1.lo.num.n y.1.lo.num.c, .bool y.1.lo.den.g, .slice y.1.lo.den.a y.1.lo.den.n y.1.lo.den.c, .bool y.1.hi.num.g, .slice y.1.hi.num.a y.1.hi.num.n y.1.hi.num.c, .bool y.1.hi.den.g, .slice y.1.hi.den.a y.1.hi.den.n y.1.hi.den.c] 34)).cell? ⟨wr.heap.size, 2, none⟩ = some (.bool y.1.lo.den.g) := by simp [go_sem]
            have y1_3 : (wr.alloc (.cells #[.bool y.1.lo.num.g, .slice y.1.lo.num.a y.1.lo.num.n y.1.lo.num.c, .bool y.1.lo.den.g, .slice y.1.lo.den.a y.1.lo.den.n y.1.lo.den.c, .bool y.1.hi.num.g, .slice y.1.hi.num.a y.1.hi.num.n y.1.hi.num.c, .bool y.1.hi.den.g, .slice y.1.hi.den.a y.1.hi.den.n y.1.hi.den.c] 34)).cell? ⟨wr.heap.size, 3, none⟩ = some (.slice y.1.lo.den.a y.1.lo.den.n y.1.lo.den.c) := by simp [go_sem]
            have y1_4 : (wr.alloc (.cells #[.bool y.1.lo.num.g, .slice y.1.lo.num.a y.1.lo.num.n y.1.lo.num.c, .bool y.1.lo.den.g, .slice y.1.lo.den.a y.1.lo.den.n y.1.lo.den.c, .bool y.1.hi.num.g, .slice y.1.hi.num.a y.1.hi.num.n y.1.hi.num.c, .bool y.1.hi.den.g, .slice y.1.hi.den.a y.1.hi.den.n y.1.hi.den.c] 34)).cell? ⟨wr.heap.size, 4, none⟩ = some (.bool y.1.hi.num.g) := by simp [go_sem]
            have y1_5 : (wr.alloc (.cells #[.bool y.1.lo.num.g, .slice y.1.lo.num.a y.1.lo.num.n y.1.lo.num.c, .bool y.1.lo.den.g, .slice y.1.lo.den.a y.1.lo.den.n y.1.lo.den.c, .bool y.1.hi.num.g, .slice y.1.hi.num.a y.1.hi.num.n y.1.hi.num.c, .bool y.1.hi.den.g, .slice y.1.hi.den.a y.1.hi.den.n y.1.hi.den.c] 34)).cell? ⟨wr.heap.size, 5, none⟩ = some (.slice y.1.hi.num.a y.1.hi.num.n y.1.hi.num.c) := by simp [go_sem]
            have y1_6 : (wr.alloc (.cells #[.bool y.1.lo.num.g, .slice y.1.lo.num.a y.1.lo.num.n y.1.lo.num.c, .bool y.1.lo.den.g, .slice y.1.lo.den.a y.1.lo.den.n y.1.lo.den.c, .bool y.1.hi.num.g, .slice y.1.hi.num.a y.1.hi.num.n y.1.hi.num.c, .bool y.1.hi.den.g, .slice y.1.hi.den.a y.1.hi.den.n y.1.hi.den.c] 34)).cell? ⟨wr.heap.size, 6, none⟩ = some (.bool y.1.hi.den.g) := by simp [go_sem]
            have y1_7 : (wr.alloc (.cells #[.bool y.1.lo.num.g, .slice y.1.lo.num.a y.1.lo.num.n y.1.lo.num.c, .bool y.1.lo.den.g, .slice y.1.lo.den.a y.1.lo.den.n y.1.lo.den.c, .bool y.1.hi.num.g, .slice y.1.hi.num.a y.1.hi.num.n y.1.hi.num.c, .bool y.1.hi.den.g, .slice y.1.hi.den.a y.1.hi.den.n y.1.hi.den.c] 34)).cell? ⟨wr.heap.size, 7, none⟩ = some (.slice y.1.hi.den.a y.1.hi.den.n y.1.hi.den.c) := by simp [go_sem]
            clear bs
            go_upto_region 10 with fail
            have k1_0 := y1_0
            have k1_1 := y1_1
            have k1_2 := y1_2
            have k1_3 := y1_3
            have k1_4 := y1_4
            have k1_5 := y1_5
            have k1_6 := y1_6
            have k1_7 := y1_7
            clear y1_0 y1_1 y1_2 y1_3 y1_4 y1_5 y1_6 y1_7 E0 E1 E2 E3 E4 E5 E6 E7 SM HBi HBw
            generalize (wr.alloc (.cells #[.bool y.1.lo.num.g, .slice y.1.lo.num.a y.1.lo.num.n y.1.lo.num.c, .bool y.1.lo.den.g, .slice y.1.lo.den.a y.1.lo.den.n y.1.lo.den.c, .bool y.1.hi.num.g, .slice y.1.hi.num.a y.1.hi.num.n y.1.hi.num.c, .bool y.1.hi.den.g, .slice y.1.hi.den.a y.1.hi.den.n y.1.hi.den.c] 34)) = wp at *
            generalize wr.heap.size = Bb at *
            have k0_0 := (unhide HBz).cell (unhide BX).1 (.inr (by omega))
            have k0_1 := (unhide HBz).cell (unhide BX).2.1 (.inr (by omega))
            have k0_2 := (unhide HBz).cell (unhide BX).2.2.1 (.inr (by omega))
            have k0_3 := (unhide HBz).cell (unhide BX).2.2.2.1 (.inr (by omega))
            have k0_4 := (unhide HBz).cell (unhide BX).2.2.2.2.1 (.inr (by omega))
            have k0_5 := (unhide HBz).cell (unhide BX).2.2.2.2.2.1 (.inr (by omega))
            have k0_6 := (unhide HBz).cell (unhide BX).2.2.2.2.2.2.1 (.inr (by omega))
            have k0_7 := (unhide HBz).cell (unhide BX).2.2.2.2.2.2.2 (.inr (by omega))
            go_cut [9] (fun p9 wx => ∃ (G : Nat) (x : QV), p9 = .pointer (some ⟨G, 0, none⟩) ∧ Hid (BxQ wp wx G x (nR (r.1 * p.2 - r.2 * p.1)) (dR (r.1 * p.2 - r.2 * p.1))))
            case first =>
              go_region_held3 (fun w' => w'.cell? ⟨Ba, 0, none⟩ = some (.bool v.1.lo.num.g) ∧ w'.cell? ⟨Ba, 1, none⟩ = some (.slice v.1.lo.num.a v.1.lo.num.n v.1.lo.num.c) ∧ w'.cell? ⟨Ba, 2, none⟩ = some (.bool v.1.lo.den.g) ∧ w'.cell? ⟨Ba, 3, none⟩ = some (.slice v.1.lo.den.a v.1.lo.den.n v.1.lo.den.c) ∧ w'.cell? ⟨Ba, 4, none⟩ = some (.bool v.1.hi.num.g) ∧ w'.cell? ⟨Ba, 5, none⟩ = some (.slice v.1.hi.num.a v.1.hi.num.n v.1.hi.num.c) ∧ w'.cell? ⟨Ba, 6, none⟩ = some (.bool v.1.hi.den.g) ∧ w'.cell? ⟨Ba, 7, none⟩ = some (.slice v.1.hi.den.a v.1.hi.den.n v.1.hi.den.c) ∧ w'.cell? ⟨Bb, 0, none⟩ = some (.bool y.1.lo.num.g) ∧ w'.cell? ⟨Bb, 1, none⟩ = some (.slice y.1.lo.num.a y.1.lo.num.n y.1.lo.num.c) ∧ w'.cell? ⟨Bb, 2, none⟩ = some (.bool y.1.lo.den.g) ∧ w'.cell? ⟨Bb, 3, none⟩ = some (.slice y.1.lo.den.a y.1.lo.den.n y.1.lo.den.c) ∧ w'.cell? ⟨Bb, 4, none⟩ = some (.bool y.1.hi.num.g) ∧ w'.cell? ⟨Bb, 5, none⟩ = some (.slice y.1.hi.num.a y.1.hi.num.n y.1.hi.num.c) ∧ w'.cell? ⟨Bb, 6, none⟩ = some (.bool y.1.hi.den.g) ∧ w'.cell? ⟨Bb, 7, none⟩ = some (.slice y.1.hi.den.a y.1.hi.den.n y.1.hi.den.c)) (with_reducible (first | exact ⟨k0_0, k0_1, k0_2, k0_3, k0_4, k0_5, k0_6, k0_7, k1_0, k1_1, k1_2, k1_3, k1_4, k1_5, k1_6, k1_7⟩ | exact ⟨cd_other k0_0, cd_other k0_1, cd_other k0_2, cd_other k0_3, cd_other k0_4, cd_other k0_5, cd_other k0_6, cd_other k0_7, cd_other k1_0, cd_other k1_1, cd_other k1_2, cd_other k1_3, cd_other k1_4, cd_other k1_5, cd_other k1_6, cd_other k1_7⟩ | exact ⟨ca_other k0_0, ca_other k0_1, ca_other k0_2, ca_other k0_3, ca_other k0_4, ca_other k0_5, ca_other k0_6, ca_other k0_7, ca_other k1_0, ca_other k1_1, ca_other k1_2, ca_other k1_3, ca_other k1_4, ca_other k1_5, ca_other k1_6, ca_other k1_7⟩ | exact ⟨cd_other (ca_other k0_0), cd_other (ca_other k0_1), cd_other (ca_other k0_2), cd_other (ca_other k0_3), cd_other (ca_other k0_4), cd_other (ca_other k0_5), cd_other (ca_other k0_6), cd_other (ca_other k0_7), cd_other (ca_other k1_0), cd_other (ca_other k1_1), cd_other (ca_other k1_2), cd_other (ca_other k1_3), cd_other (ca_other k1_4), cd_other (ca_other k1_5), cd_other (ca_other k1_6), cd_other (ca_other k1_7)⟩ | exact ⟨cs_other (cs_other (cs_other (cs_other (k0_0) (by omega)) (by omega)) (by omega)) (by omega), cs_other (cs_other (cs_other (cs_other (k0_1) (by omega)) (by omega)) (by omega)) (by omega), cs_other (cs_other (cs_other (cs_other (k0_2) (by omega)) (by omega)) (by omega)) (by omega), cs_other (cs_other (cs_other (cs_other (k0_3) (by omega)) (by omega)) (by omega)) (by omega), cs_other (cs_other (cs_other (cs_other (k0_4) (by omega)) (by omega)) (by omega)) (by omega), cs_other (cs_other (cs_other (cs_other (k0_5) (by omega)) (by omega)) (by omega)) (by omega), cs_other (cs_other (cs_other (cs_other (k0_6) (by omega)) (by omega)) (by omega)) (by omega), cs_other (cs_other (cs_other (cs_other (k0_7) (by omega)) (by omega)) (by omega)) (by omega), cs_other (cs_other (cs_other (cs_other (k1_0) (by omega)) (by omega)) (by omega)) (by omega), cs_other (cs_other (cs_other (cs_other (k1_1) (by omega)) (by omega)) (by omega)) (by omega), cs_other (cs_other (cs_other (cs_other (k1_2) (by omega)) (by omega)) (by omega)) (by omega), cs_other (cs_other (cs_other (cs_other (k1_3) (by omega)) (by omega)) (by omega)) (by omega), cs_other (cs_other (cs_other (cs_other (k1_4) (by omega)) (by omega)) (by omega)) (by omega), cs_other (cs_other (cs_other (cs_other (k1_5) (by omega)) (by omega)) (by omega)) (by omega), cs_other (cs_other (cs_other (cs_other (k1_6) (by omega)) (by omega)) (by omega)) (by omega), cs_other (cs_other (cs_other (cs_other (k1_7) (by omega)) (by omega)) (by omega)) (by omega)⟩ | fail))
                (first
                | (go_at_call_of 195 (Value.agg #[Value.bool v.1.lo.num.g, Value.slice v.1.lo.num.a v.1.lo.num.n v.1.lo.num.c, Value.bool v.1.lo.den.g, Value.slice v.1.lo.den.a v.1.lo.den.n v.1.lo.den.c]); refine (mulRS v.1.lo y.1.hi (r.1) (p.2) _ ?_ ?_ (((unhide BV).x).mono (by omega)) (((unhide BP).y).mono (by omega))).mono ?_; (first | exact (unhide IV).x.later (Below.refl _ _).drew | exact (unhide IV).x.later ((Below.refl _ _).alloc (Nat.le_refl _) _).drew); (first | exact (unhide IP).y.later (Below.refl _ _).drew | exact (unhide IP).y.later ((Below.refl _ _).alloc (Nat.le_refl _) _).drew); rintro e wx1 ⟨x1, rfl, hb, o1, a1⟩; have hbx : Below wp.heap.size wp wx1 := (by first | exact below_of_drew hb | exact bad hb); have szwx1 := hbx.size; replace k0_0 := cell_later hbx k0_0; replace k0_1 := cell_later hbx k0_1; replace k0_2 := cell_later hbx k0_2; replace k0_3 := cell_later hbx k0_3; replace k0_4 := cell_later hbx k0_4; replace k0_5 := cell_later hbx k0_5; replace k0_6 := cell_later hbx k0_6; replace k0_7 := cell_later hbx k0_7; replace k1_0 := cell_later hbx k1_0; replace k1_1 := cell_later hbx k1_1; replace k1_2 := cell_later hbx k1_2; replace k1_3 := cell_later hbx k1_3; replace k1_4 := cell_later hbx k1_4; replace k1_5 := cell_later hbx k1_5; replace k1_6 := cell_later hbx k1_6; replace k1_7 := cell_later hbx k1_7; replace IP := hide ((unhide IP).later hbx); replace IV := hide ((unhide IV).later hbx); have X1 := hide (OwV.mk (x := r.1 * p.2) o1 a1); (try (replace gf := fun o => frozen_later hbx (World.block_lt_of_cell? _ _ g0) (gf o); replace g0 := cell_later hbx g0; replace g1 := cell_later hbx g1; replace g2 := cell_later hbx g2; replace g3 := cell_later hbx g3)); (try (refine cutP (p := wx1.cell? ⟨wp.heap.size, 0, none⟩ = some (.bool false) ∧ wx1.cell? ⟨wp.heap.size, 1, none⟩ = some (.slice none 0 0) ∧ wx1.cell? ⟨wp.heap.size, 2, none⟩ = some (.bool false) ∧ wx1.cell? ⟨wp.heap.size, 3, none⟩ = some (.slice none 0 0) ∧ ∀ o, wx1.frozen? ⟨wp.heap.size, o, none⟩ = false) ?_ (fun dd => ?_); (focus (refine ⟨cell_later hb ?_, cell_later hb ?_, cell_later hb ?_, cell_later hb ?_, fun o => frozen_later hb ?_ ?_⟩ <;> (simp [go_sem]; done))); obtain ⟨g0, g1, g2, g3, gf⟩ := dd)); have zz := hb.size; (try simp at zz); have HBr := hide hbx; clear hbx hb o1 a1)
                | (go_at_call_of 195 (Value.agg #[Value.bool v.1.hi.num.g, Value.slice v.1.hi.num.a v.1.hi.num.n v.1.hi.num.c, Value.bool v.1.hi.den.g, Value.slice v.1.hi.den.a v.1.hi.den.n v.1.hi.den.c]); refine (mulRS v.1.hi y.1.lo (r.2) (p.1) _ ?_ ?_ (((unhide BV).y).mono (by omega)) (((unhide BP).x).mono (by omega))).mono ?_; (first | exact (unhide IV).y.later (Below.refl _ _) | exact (unhide IV).y.later ((Below.refl _ _).alloc (Nat.le_refl _) _)); (first | exact (unhide IP).x.later (Below.refl _ _) | exact (unhide IP).x.later ((Below.refl _ _).alloc (Nat.le_refl _) _)); rintro e wx2 ⟨x2, rfl, hb, o2, a2⟩; have hbx : Below wx1.heap.size wx1 wx2 := (by first | exact hb | exact ba hb); have szwx2 := hbx.size; replace k0_0 := cell_later hbx k0_0; replace k0_1 := cell_later hbx k0_1; replace k0_2 := cell_later hbx k0_2; replace k0_3 := cell_later hbx k0_3; replace k0_4 := cell_later hbx k0_4; replace k0_5 := cell_later hbx k0_5; replace k0_6 := cell_later hbx k0_6; replace k0_7 := cell_later hbx k0_7; replace k1_0 := cell_later hbx k1_0; replace k1_1 := cell_later hbx k1_1; replace k1_2 := cell_later hbx k1_2; replace k1_3 := cell_later hbx k1_3; replace k1_4 := cell_later hbx k1_4; replace k1_5 := cell_later hbx k1_5; replace k1_6 := cell_later hbx k1_6; replace k1_7 := cell_later hbx k1_7; replace IP := hide ((unhide IP).later hbx); replace IV := hide ((unhide IV).later hbx); replace X1 := hide ((unhide X1).later hbx); have X2 := hide (OwV.mk (x := r.2 * p.1) o2 a2); (try (replace gf := fun o => frozen_later hbx (World.block_lt_of_cell? _ _ g0) (gf o); replace g0 := cell_later hbx g0; replace g1 := cell_later hbx g1; replace g2 := cell_later hbx g2; replace g3 := cell_later hbx g3)); (try (refine cutP (p := wx2.cell? ⟨wx1.heap.size, 0, none⟩ = some (.bool false) ∧ wx2.cell? ⟨wx1.heap.size, 1, none⟩ = some (.slice none 0 0) ∧ wx2.cell? ⟨wx1.heap.size, 2, none⟩ = some (.bool false) ∧ wx2.cell? ⟨wx1.heap.size, 3, none⟩ = some (.slice none 0 0) ∧ ∀ o, wx2.frozen? ⟨wx1.heap.size, o, none⟩ = false) ?_ (fun dd => ?_); (focus (refine ⟨cell_later hb ?_, cell_later hb ?_, cell_later hb ?_, cell_later hb ?_, fun o => frozen_later hb ?_ ?_⟩ <;> (simp [go_sem]; done))); obtain ⟨g0, g1, g2, g3, gf⟩ := dd)); have zz := hb.size; (try simp at zz); have HBr := hide (below_on (unhide HBr) hbx); clear hbx hb o2 a2)
                | (go_at_call 194; refine (subRS x1 x2 (r.1 * p.2) (r.2 * p.1) _ ?_ ?_ (((unhide BV).x.mul (unhide BP).y).mono (by omega)) (((unhide BV).y.mul (unhide BP).x).mono (by omega))).mono ?_; (first | exact (unhide X1).is.later (Below.refl _ _) | exact (unhide X1).is.later ((Below.refl _ _).alloc (Nat.le_refl _) _)); (first | exact (unhide X2).is.later (Below.refl _ _) | exact (unhide X2).is.later ((Below.refl _ _).alloc (Nat.le_refl _) _)); rintro e wx3 ⟨x3, rfl, hb, o3, a3⟩; have hbx : Below wx2.heap.size wx2 wx3 := (by first | exact hb | exact ba hb); have szwx3 := hbx.size; replace k0_0 := cell_later hbx k0_0; replace k0_1 := cell_later hbx k0_1; replace k0_2 := cell_later hbx k0_2; replace k0_3 := cell_later hbx k0_3; replace k0_4 := cell_later hbx k0_4; replace k0_5 := cell_later hbx k0_5; replace k0_6 := cell_later hbx k0_6; replace k0_7 := cell_later hbx k0_7; replace k1_0 := cell_later hbx k1_0; replace k1_1 := cell_later hbx k1_1; replace k1_2 := cell_later hbx k1_2; replace k1_3 := cell_later hbx k1_3; replace k1_4 := cell_later hbx k1_4; replace k1_5 := cell_later hbx k1_5; replace k1_6 := cell_later hbx k1_6; replace k1_7 := cell_later hbx k1_7; replace IP := hide ((unhide IP).later hbx); replace IV := hide ((unhide IV).later hbx); replace X1 := hide ((unhide X1).later hbx); replace X2 := hide ((unhide X2).later hbx); have X3 := hide (OwV.mk (x := r.1 * p.2 - r.2 * p.1) o3 a3); (try (replace gf := fun o => frozen_later hbx (World.block_lt_of_cell? _ _ g0) (gf o); replace g0 := cell_later hbx g0; replace g1 := cell_later hbx g1; replace g2 := cell_later hbx g2; replace g3 := cell_later hbx g3)); (try (refine cutP (p := wx3.cell? ⟨wx2.heap.size, 0, none⟩ = some (.bool false) ∧ wx3.cell? ⟨wx2.heap.size, 1, none⟩ = some (.slice none 0 0) ∧ wx3.cell? ⟨wx2.heap.size, 2, none⟩ = some (.bool false) ∧ wx3.cell? ⟨wx2.heap.size, 3, none⟩ = some (.slice none 0 0) ∧ ∀ o, wx3.frozen? ⟨wx2.heap.size, o, none⟩ = false) ?_ (fun dd => ?_); (focus (refine ⟨cell_later hb ?_, cell_later hb ?_, cell_later hb ?_, cell_later hb ?_, fun o => frozen_later hb ?_ ?_⟩ <;> (simp [go_sem]; done))); obtain ⟨g0, g1, g2, g3, gf⟩ := dd)); have zz := hb.size; (try simp at zz); have HBr := hide (below_on (unhide HBr) hbx); clear hbx hb o3 a3))
              all_goals go_wp2_with fail
              all_goals go_meet
              all_goals first
                | (refine ⟨_, x3, rfl, hide (bxQ_alloc 28 (unhide HBr) (unhide X3).n (unhide X3).d ?_)⟩; omega)
                | (refine ⟨_, x3, rfl, hide (bxQ_set (unhide HBr) (unhide X3).n (unhide X3).d ?_ ?_ g0 g1 g2 g3)⟩ <;> first | omega | (simp; done) | (simp; omega))
            case rest =>
              obtain ⟨G9, x9, rfl, HG9⟩ := hcut
              have hb9 := (unhide HG9).bel
              have lo9 := (unhide HG9).lo
              have SMc := hide ((unhide SMp).later hb9)
              have HBc := hide ((unhide HBz).trans (but_of_below hb9))
              have HWc := hide (below_on (unhide HBy) hb9)
              have IX : Hid (IsR wc x9 (r.1 * p.2 - r.2 * p.1)) := hide ⟨(unhide HG9).ow1.is, (unhide HG9).ow2.is⟩
              have IS := hide (unhide SMc).ow.is
              have k1_0 := (unhide HG9).c0
              have k1_1 := (unhide HG9).c1
              have k1_2 := (unhide HG9).c2
              have k1_3 := (unhide HG9).c3
              have k0_0 := (unhide SMc).c0
              have k0_1 := (unhide SMc).c1
              have k0_2 := (unhide SMc).c2
              have k0_3 := (unhide SMc).c3
              have fz0 := (unhide SMc).fz
              have sz9 := hb9.size
              have hi9 := (unhide HG9).hi
              clear HG9 hb9 SMp HBz HBy IP IV
              go_upto_region 11 with fail
              have ne1_0 : G9 ≠ S := by omega
              have kd0_0 := cd_other k0_0
              have kd0_1 := cd_other k0_1
              have kd0_2 := cd_other k0_2
              have kd0_3 := cd_other k0_3
              have kd1_0 := cd_other k1_0
              have kd1_1 := cd_other k1_1
              have kd1_2 := cd_other k1_2
              have kd1_3 := cd_other k1_3
              go_region_with (first
                | (go_at_call 150; refine (addRS q x5 (inZ qs i (outZ qs n2 i) k) ((r.1 * p.2 - r.2 * p.1) * Rat.divInt (k : Int) (2 * ((i : Int) + (k : Int)))) _ ?_ ?_ ((unhide BS).mono (by omega)) (((unhide BC).mul (unhide BZ)).mono (by omega))).mono ?_; exact (unhide IS).later (Below.refl _ _); exact (unhide X5).later (Below.refl _ _); rintro e w7 ⟨x6, rfl, hb, o6, a6⟩; have hbx : Below w6.heap.size w6 w7 := hb; replace fz0 := fun o => frozen_later hbx (World.block_lt_of_cell? _ _ k0_0) (fz0 o); have szw7 := hbx.size; replace k0_0 := cell_later hbx k0_0; replace k0_1 := cell_later hbx k0_1; replace k0_2 := cell_later hbx k0_2; replace k0_3 := cell_later hbx k0_3; replace k1_0 := cell_later hbx k1_0; replace k1_1 := cell_later hbx k1_1; replace k1_2 := cell_later hbx k1_2; replace k1_3 := cell_later hbx k1_3; replace IX := hide ((unhide IX).later hbx); replace IS := hide ((unhide IS).later hbx); replace IB1 := hide ((unhide IB1).later hbx); replace IB2 := hide ((unhide IB2).later hbx); replace X4 := hide ((unhide X4).later hbx); replace X5 := hide ((unhide X5).later hbx); have FR := hide (below_on (below_on (below_on (below_on (unhide F1) (unhide F2)) (unhide F3)) (unhide F4)) hbx); have O6 := hide (OwV.mk (lo := w6.heap.size) (x := inZ qs i (outZ qs n2 i) k + (r.1 * p.2 - r.2 * p.1) * Rat.divInt (k : Int) (2 * ((i : Int) + (k : Int)))) o6 a6); have fs5 := hbx.size; have HBr := hide (below_on (unhide HBr) hbx); clear hbx hb o6 a6)
                | (go_at_call 195; refine (mulRS x9 x4 (r.1 * p.2 - r.2 * p.1) (Rat.divInt (k : Int) (2 * ((i : Int) + (k : Int)))) _ ?_ ?_ ((unhide BC).mono (by omega)) ((unhide BZ).mono (by omega))).mono ?_; exact (unhide IX).later (Below.refl _ _); exact (unhide X4).later (Below.refl _ _); rintro e w6 ⟨x5, rfl, hb, o5, a5⟩; have hbx : Below w5.heap.size w5 w6 := hb; replace fz0 := fun o => frozen_later hbx (World.block_lt_of_cell? _ _ k0_0) (fz0 o); have szw6 := hbx.size; replace k0_0 := cell_later hbx k0_0; replace k0_1 := cell_later hbx k0_1; replace k0_2 := cell_later hbx k0_2; replace k0_3 := cell_later hbx k0_3; replace k1_0 := cell_later hbx k1_0; replace k1_1 := cell_later hbx k1_1; replace k1_2 := cell_later hbx k1_2; replace k1_3 := cell_later hbx k1_3; replace IX := hide ((unhide IX).later hbx); replace IS := hide ((unhide IS).later hbx); replace IB1 := hide ((unhide IB1).later hbx); replace IB2 := hide ((unhide IB2).later hbx); replace X4 := hide ((unhide X4).later hbx); have F4 := hide hbx; have fs4 := hbx.size; have X5 := hide ((OwV.mk (x := (r.1 * p.2 - r.2 * p.1) * Rat.divInt (k : Int) (2 * ((i : Int) + (k : Int)))) o5 a5).is); have HBr := hide (below_on (unhide HBr) hbx); clear hbx hb o5 a5)
                | (go_at_call 184; refine (lowRS b1 b2 (k : Int) (2 * ((i : Int) + (k : Int))) _ ?_ ?_ (by omega) (by omega) (by omega) (by omega) (by omega)).mono ?_; exact (unhide IB1).later (Below.refl _ _); exact (unhide IB2).later (Below.refl _ _); rintro e w5 ⟨x4, la4, lb4, rfl, hb, o4, a4, m4, n4⟩; have hbx : Below w4.heap.size w4 w5 := hb; replace fz0 := fun o => frozen_later hbx (World.block_lt_of_cell? _ _ k0_0) (fz0 o); have szw5 := hbx.size; replace k0_0 := cell_later hbx k0_0; replace k0_1 := cell_later hbx k0_1; replace k0_2 := cell_later hbx k0_2; replace k0_3 := cell_later hbx k0_3; replace k1_0 := cell_later hbx k1_0; replace k1_1 := cell_later hbx k1_1; replace k1_2 := cell_later hbx k1_2; replace k1_3 := cell_later hbx k1_3; replace IX := hide ((unhide IX).later hbx); replace IS := hide ((unhide IS).later hbx); replace IB1 := hide ((unhide IB1).later hbx); replace IB2 := hide ((unhide IB2).later hbx); have F3 := hide hbx; have fs3 := hbx.size; have X4 := hide (isR_of (x := Rat.divInt (k : Int) (2 * ((i : Int) + (k : Int)))) a4 m4 n4); have HBr := hide (below_on (unhide HBr) hbx); clear hbx hb o4 a4 m4 n4)
                | (have chk := IB1; clear chk; go_at_call 185; refine (bigRS (2 * ((i : Int) + (k : Int))) _ (by omega) (by omega)).mono ?_; rintro e w4 ⟨b2, rfl, hb, ib⟩; have hbx : Below w3.heap.size w3 w4 := hb; replace fz0 := fun o => frozen_later hbx (World.block_lt_of_cell? _ _ k0_0) (fz0 o); have szw4 := hbx.size; replace k0_0 := cell_later hbx k0_0; replace k0_1 := cell_later hbx k0_1; replace k0_2 := cell_later hbx k0_2; replace k0_3 := cell_later hbx k0_3; replace k1_0 := cell_later hbx k1_0; replace k1_1 := cell_later hbx k1_1; replace k1_2 := cell_later hbx k1_2; replace k1_3 := cell_later hbx k1_3; replace IX := hide ((unhide IX).later hbx); replace IS := hide ((unhide IS).later hbx); replace IB1 := hide ((unhide IB1).later hbx); have F2 := hide hbx; have fs2 := hbx.size; have IB2 := hide (ib); have HBr := hide (below_on (unhide HBr) hbx); clear hbx hb ib)
                | (go_at_call 185; refine (bigRS (k : Int) _ (by omega) (by omega)).mono ?_; rintro e w3 ⟨b1, rfl, hb, ib⟩; have hbx : Below wc.heap.size wc w3 := below_of_drew hb; replace fz0 := fun o => frozen_later hbx (World.block_lt_of_cell? _ _ k0_0) (fz0 o); have szw3 := hbx.size; replace k0_0 := cell_later hbx k0_0; replace k0_1 := cell_later hbx k0_1; replace k0_2 := cell_later hbx k0_2; replace k0_3 := cell_later hbx k0_3; replace k1_0 := cell_later hbx k1_0; replace k1_1 := cell_later hbx k1_1; replace k1_2 := cell_later hbx k1_2; replace k1_3 := cell_later hbx k1_3; replace IX := hide ((unhide IX).later hbx); replace IS := hide ((unhide IS).later hbx); have F1 := hide hbx; have fs1 := hbx.size; have IB1 := hide (ib); have HBr := hide hbx; clear hbx hb ib))
              all_goals
                (have SM6 : Hid (SmV w.heap.size S ((((w7.setCell ⟨S, 0, none⟩ (.bool x6.num.g)).setCell ⟨S, 1, none⟩ (.slice x6.num.a x6.num.n x6.num.c)).setCell ⟨S, 2, none⟩ (.bool x6.den.g)).setCell ⟨S, 3, none⟩ (.slice x6.den.a x6.den.n x6.den.c)) x6 (inZ qs i (outZ qs n2 i) (k + 1))) := hide (by
                   have h := ((unhide SMc).later (unhide FR)).put (unhide O6) (by omega) (Nat.le_refl _) (by omega)
                   have e : inZ qs i (outZ qs n2 i) (k + 1) = inZ qs i (outZ qs n2 i) k + (r.1 * p.2 - r.2 * p.1) * Rat.divInt (k : Int) (2 * ((i : Int) + (k : Int))) := by
                     rw [inZ_step _ _ _ hk0]
                     unfold tmS crS pAt
                     rw [unhide PV, unhide RV1]
                     rfl
                   rw [e]
                   exact h)
                 have HB6 : Hid (But S (S + 1) wb ((((w7.setCell ⟨S, 0, none⟩ (.bool x6.num.g)).setCell ⟨S, 1, none⟩ (.slice x6.num.a x6.num.n x6.num.c)).setCell ⟨S, 2, none⟩ (.bool x6.den.g)).setCell ⟨S, 3, none⟩ (.slice x6.den.a x6.den.n x6.den.c))) := hide (((unhide HBc).trans (but_of_below (unhide FR))).trans metQ_but)
                 have HW6 : Hid (Below w1.heap.size w1 ((((w7.setCell ⟨S, 0, none⟩ (.bool x6.num.g)).setCell ⟨S, 1, none⟩ (.slice x6.num.a x6.num.n x6.num.c)).setCell ⟨S, 2, none⟩ (.bool x6.den.g)).setCell ⟨S, 3, none⟩ (.slice x6.den.a x6.den.n x6.den.c))) := hide (metQ_but.below (below_on (unhide HWc) (unhide FR)) (by omega) (below_on (unhide HWc) (unhide FR)).size)
                 clear k0_0 k0_1 k0_2 k0_3 k1_0 k1_1 k1_2 k1_3 kd0_0 kd0_1 kd0_2 kd0_3 kd1_0 kd1_1 kd1_2 kd1_3 HBr IX IS fz0
                 go_wp2
                 go_roundw
                 case rel => exact ⟨k + 1, x6, by omega, by go_num, SM6, HB6, HW6⟩
                 case measure => simp [intOf]; omega)
          · have hk0' : ¬ (0 : Int) < (k : Int) := by omega
            have IE : Hid (SmV w.heap.size S (wr.alloc (.cells #[.bool y.1.lo.num.g, .slice y.1.lo.num.a y.1.lo.num.n y.1.lo.num.c, .bool y.1.lo.den.g, .slice y.1.lo.den.a y.1.lo.den.n y.1.lo.den.c, .bool y.1.hi.num.g, .slice y.1.hi.num.a y.1.hi.num.n y.1.hi.num.c, .bool y.1.hi.den.g, .slice y.1.hi.den.a y.1.hi.den.n y.1.hi.den.c] 34)) q (inZ qs i (outZ qs n2 i) (k + 1))) := hide (by
              have e : k = 0 := by omega
              have h := unhide SMp
              subst e
              exact h)
            clear SM HBi HBw IP IV SMp
            go_wp2
            go_roundw
            case rel => exact ⟨k + 1, q, by omega, by go_num, IE, HBz, HBy⟩
            case measure => simp [intOf]; omega
        · obtain rfl : k = n2 := by omega
          have HB9 := hide ((unhide HBb).trans (unhide HBi))
          clear HBi
          go_wp2
          go_roundw
          case rel => exact ⟨i + 1, q, by omega, by go_num, SM, HB9, HBw⟩
          case measure => simp [intOf]; omega
    · obtain rfl : i = n2 := by omega
      have sSr := (unhide SM).lt
      have szo := (unhide HBo).size
      have k0_0 := (unhide SM).c0
      have k0_1 := (unhide SM).c1
      have k0_2 := (unhide SM).c2
      have k0_3 := (unhide SM).c3
      have k1_0 := (unhide HBo).cell (unhide HR).1.1 (.inl (by omega))
      have k1_1 := (unhide HBo).cell (unhide HR).1.2.1 (.inl (by omega))
      have k1_2 := (unhide HBo).cell (unhide HR).1.2.2.1 (.inl (by omega))
      have k1_3 := (unhide HBo).cell (unhide HR).1.2.2.2 (.inl (by omega))
      have z1 : ∀ o, wr.frozen? ⟨w.heap.size, o, none⟩ = false := fun o => by
        have := (unhide HBo).block w.heap.size (by omega) (.inl (by omega))
        rw [World.frozen?_of_block (a := ⟨w.heap.size, o, none⟩) this]
        exact (unhide HR).2 o
      have HBe := hide (below_on (unhide KB1) (unhide HBw))
      go_wp2
      refine bodyPost_ret (v := .agg #[.bool q.num.g, .slice q.num.a q.num.n q.num.c, .bool q.den.g, .slice q.den.a q.den.n q.den.c]) (by simp [results, Tryz.results117, go_sem, k1_0, k1_1, k1_2, k1_3]) rfl ?_
      exact outRv_fin (R := w.heap.size) (Nat.le_refl _) (unhide HBe) (metQ_but (w5 := wr) (v := q) (G := w.heap.size)) (unhide SM).ow (Nat.le_refl _) (Nat.le_refl _)
end Go.Proofs.YtikllcoekcglcaaGreat

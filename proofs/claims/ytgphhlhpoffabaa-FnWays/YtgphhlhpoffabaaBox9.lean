/- Chapter 9 of the specification: boxes, sums over boxes. No condition beyond those typed. Written by mkbox9.py. -/
import Derived.Test.YtgphhlhpoffabaaSp9
import Derived.Test.YtgphhlhpoffabaaDr8
namespace Go.Proofs.Ytgphhlhpoffabaa
open Go.RowKit
set_option linter.unusedVariables false
set_option maxRecDepth 100000
set_option linter.unusedSimpArgs false

theorem BxP.set0 {w : World} {G : Nat} {x y v : Int} (h : BxP w G x y) : BxP (w.setCell ⟨G, 0, none⟩ (.int .i64 v)) G v y := by
  have k0 := h.c0
  have k1 := h.c1
  have kf := h.fz
  exact ⟨by simp [go_sem, k0], by simp [go_sem, k1], fun o => by simp [go_sem, kf]⟩
theorem BxP.set1 {w : World} {G : Nat} {x y v : Int} (h : BxP w G x y) : BxP (w.setCell ⟨G, 1, none⟩ (.int .i64 v)) G x v := by
  have k0 := h.c0
  have k1 := h.c1
  have kf := h.fz
  exact ⟨by simp [go_sem, k0], by simp [go_sem, k1], fun o => by simp [go_sem, kf]⟩
theorem BxP.other {w : World} {G K i : Nat} {x y : Int} {v : Value} (h : BxP w G x y) (hne : G ≠ K) : BxP (w.setCell ⟨K, i, none⟩ v) G x y := by
  have hb : But K (K + 1) w (w.setCell ⟨K, i, none⟩ v) := (But.refl _ _ _).set (p := ⟨K, i, none⟩) (Nat.le_refl K) (Nat.lt_succ_self K) v
  exact h.keep hb (by omega)
theorem bel_set {B K i : Nat} {a w : World} {v : Value} (h : Below B a w) (hB : B ≤ K) (hs : B ≤ w.heap.size) : Below B a (w.setCell ⟨K, i, none⟩ v) := ((But.refl K (K + 1) w).set (p := ⟨K, i, none⟩) (Nat.le_refl K) (Nat.lt_succ_self K) v).below h hB hs
def loS (l : List (Int × Int)) : Nat → Int × Int
  | 0 => l.getD 0 (0, 0)
  | k + 1 => (min (loS l k).1 (l.getD k (0, 0)).1, min (loS l k).2 (l.getD k (0, 0)).2)
def hiS (l : List (Int × Int)) : Nat → Int × Int
  | 0 => l.getD 0 (0, 0)
  | k + 1 => (max (hiS l k).1 (l.getD k (0, 0)).1, max (hiS l k).2 (l.getD k (0, 0)).2)
set_option maxHeartbeats 16000000 in
theorem boxS9 (a : Option Addr) (n c : Nat) (l : List (Int × Int)) (w : World) (h : SlP w a l) (hn : l.length = n) (h0 : 0 < n) (h1 : n ≤ 1048576) :
    Calls Try.prog 65 #[.slice a n c] w fun e w' => e = .returned (.tuple #[.agg #[.int .i64 (loS l l.length).1, .int .i64 (loS l l.length).2], .agg #[.int .i64 (hiS l l.length).1, .int .i64 (hiS l l.length).2]]) ∧ Below w.heap.size w w' := by
  have HN := hide hn
  rcases h with e | ⟨b, off, rfl, hb, hc⟩
  · rw [e] at hn; simp at hn; omega
  have e0 := hc 0 (by omega)
  rw [← getD_gt (by omega)] at e0
  have E0 : w.cell? ⟨b, off, none⟩ = some (.int .i64 (l.getD 0 (0, 0)).1) := by simpa using e0.1
  have E1 : w.cell? ⟨b, off + 1, none⟩ = some (.int .i64 (l.getD 0 (0, 0)).2) := by simpa using e0.2
  have HC := hide hc
  have nn : (0 : Int) < (n : Int) := by omega
  have S0 : Hid (loS l 0 = l.getD 0 (0, 0) ∧ hiS l 0 = l.getD 0 (0, 0)) := hide ⟨rfl, rfl⟩
  clear hc e0 hn
  generalize l.getD 0 (0, 0) = x0 at *
  have B4 : Hid (Below w.heap.size w ((((w.alloc (.cells #[.int .i64 0, .int .i64 0] 25)).alloc (.cells #[.int .i64 0, .int .i64 0] 25)).alloc (.cells #[.int .i64 x0.1, .int .i64 x0.2] 25)).alloc (.cells #[.int .i64 x0.1, .int .i64 x0.2] 25))) := hide (((((Below.refl _ _).alloc (Nat.le_refl _) _).alloc (by simp) _).alloc (by simp; omega) _).alloc (by simp; omega) _)
  have z1 : (w.alloc (.cells #[.int .i64 0, .int .i64 0] 25)).heap.size = w.heap.size + 1 := by simp
  have z2 : ((w.alloc (.cells #[.int .i64 0, .int .i64 0] 25)).alloc (.cells #[.int .i64 0, .int .i64 0] 25)).heap.size = w.heap.size + 1 + 1 := by simp
  have z3 : (((w.alloc (.cells #[.int .i64 0, .int .i64 0] 25)).alloc (.cells #[.int .i64 0, .int .i64 0] 25)).alloc (.cells #[.int .i64 x0.1, .int .i64 x0.2] 25)).heap.size = w.heap.size + 1 + 1 + 1 := by simp
  have R0 : Hid (BxP ((((w.alloc (.cells #[.int .i64 0, .int .i64 0] 25)).alloc (.cells #[.int .i64 0, .int .i64 0] 25)).alloc (.cells #[.int .i64 x0.1, .int .i64 x0.2] 25)).alloc (.cells #[.int .i64 x0.1, .int .i64 x0.2] 25)) w.heap.size 0 0) := hide (((BxP.new.later ((Below.refl _ _).alloc (Nat.le_refl _) _)).later ((Below.refl _ _).alloc (Nat.le_refl _) _)).later ((Below.refl _ _).alloc (Nat.le_refl _) _))
  have R1 : Hid (BxP ((((w.alloc (.cells #[.int .i64 0, .int .i64 0] 25)).alloc (.cells #[.int .i64 0, .int .i64 0] 25)).alloc (.cells #[.int .i64 x0.1, .int .i64 x0.2] 25)).alloc (.cells #[.int .i64 x0.1, .int .i64 x0.2] 25)) (w.heap.size + 1) 0 0) := hide (z1 ▸ ((BxP.new.later ((Below.refl _ _).alloc (Nat.le_refl _) _)).later ((Below.refl _ _).alloc (Nat.le_refl _) _)))
  have LO : Hid (BxP ((((w.alloc (.cells #[.int .i64 0, .int .i64 0] 25)).alloc (.cells #[.int .i64 0, .int .i64 0] 25)).alloc (.cells #[.int .i64 x0.1, .int .i64 x0.2] 25)).alloc (.cells #[.int .i64 x0.1, .int .i64 x0.2] 25)) (w.heap.size + 1 + 1) x0.1 x0.2) := hide (z2 ▸ (BxP.new.later ((Below.refl _ _).alloc (Nat.le_refl _) _)))
  have HI : Hid (BxP ((((w.alloc (.cells #[.int .i64 0, .int .i64 0] 25)).alloc (.cells #[.int .i64 0, .int .i64 0] 25)).alloc (.cells #[.int .i64 x0.1, .int .i64 x0.2] 25)).alloc (.cells #[.int .i64 x0.1, .int .i64 x0.2] 25)) (w.heap.size + 1 + 1 + 1) x0.1 x0.2) := hide (z3 ▸ BxP.new)
  have s4 : w.heap.size + 1 + 1 + 1 + 1 ≤ ((((w.alloc (.cells #[.int .i64 0, .int .i64 0] 25)).alloc (.cells #[.int .i64 0, .int .i64 0] 25)).alloc (.cells #[.int .i64 x0.1, .int .i64 x0.2] 25)).alloc (.cells #[.int .i64 x0.1, .int .i64 x0.2] 25)).heap.size := by simp
  have g0 : ((w.alloc (.cells #[.int .i64 0, .int .i64 0] 25)).alloc (.cells #[.int .i64 0, .int .i64 0] 25)).cell? ⟨b, off, none⟩ = some (.int .i64 x0.1) := ca_other (ca_other E0)
  have g1 : ((w.alloc (.cells #[.int .i64 0, .int .i64 0] 25)).alloc (.cells #[.int .i64 0, .int .i64 0] 25)).cell? ⟨b, off + 1, none⟩ = some (.int .i64 x0.2) := ca_other (ca_other E1)
  have g2 : (((w.alloc (.cells #[.int .i64 0, .int .i64 0] 25)).alloc (.cells #[.int .i64 0, .int .i64 0] 25)).alloc (.cells #[.int .i64 x0.1, .int .i64 x0.2] 25)).cell? ⟨b, off, none⟩ = some (.int .i64 x0.1) := ca_other g0
  have g3 : (((w.alloc (.cells #[.int .i64 0, .int .i64 0] 25)).alloc (.cells #[.int .i64 0, .int .i64 0] 25)).alloc (.cells #[.int .i64 x0.1, .int .i64 x0.2] 25)).cell? ⟨b, off + 1, none⟩ = some (.int .i64 x0.2) := ca_other g1
  clear z1 z2 z3
  go_enter Try.func65, Try.ntmps65
  go_wp2
  clear E0 E1 g0 g1 g2 g3
  generalize ((((w.alloc (.cells #[.int .i64 0, .int .i64 0] 25)).alloc (.cells #[.int .i64 0, .int .i64 0] 25)).alloc (.cells #[.int .i64 x0.1, .int .i64 x0.2] 25)).alloc (.cells #[.int .i64 x0.1, .int .i64 x0.2] 25)) = w0 at *
  go_loopw [16] (fun iv wr => ∃ i : Nat, i ≤ n ∧ iv = .int .i64 i ∧ Hid (BxP wr w.heap.size 0 0) ∧ Hid (BxP wr (w.heap.size + 1) 0 0) ∧ Hid (BxP wr (w.heap.size + 1 + 1) (loS l i).1 (loS l i).2) ∧ Hid (BxP wr (w.heap.size + 1 + 1 + 1) (hiS l i).1 (hiS l i).2) ∧ Hid (Below w.heap.size w wr) ∧ w.heap.size + 1 + 1 + 1 + 1 ≤ wr.heap.size) (fun iv _ => n - (intOf iv).toNat)
  case atStart => exact ⟨0, Nat.zero_le _, rfl, R0, R1, by rw [(unhide S0).1]; exact LO, by rw [(unhide S0).2]; exact HI, B4, s4⟩
  case round =>
    clear R0 R1 LO HI B4 s4 S0
    obtain ⟨i, hi, rfl, R0, R1, LO, HI, HB, s4⟩ := hrel
    by_cases hlt : i < n
    · have hlt' : (i : Int) < (n : Int) := by omega
      have e0 := unhide HC i (by rw [unhide HN]; exact hlt)
      rw [← getD_gt (by rw [unhide HN]; exact hlt)] at e0
      have EL : loS l (i + 1) = (min (loS l i).1 (l.getD i (0, 0)).1, min (loS l i).2 (l.getD i (0, 0)).2) := rfl
      have EH : hiS l (i + 1) = (max (hiS l i).1 (l.getD i (0, 0)).1, max (hiS l i).2 (l.getD i (0, 0)).2) := rfl
      have HEL := hide EL
      have HEH := hide EH
      clear EL EH
      generalize loS l i = u at *
      generalize hiS l i = v at *
      generalize l.getD i (0, 0) = x at *
      have E0 : wr.cell? ⟨b, off + i * 2, none⟩ = some (.int .i64 x.1) := ((unhide HB).cell (p := ⟨b, off + i * 2, none⟩) hb).trans (e0.1)
      have E1 : wr.cell? ⟨b, off + i * 2 + 1, none⟩ = some (.int .i64 x.2) := ((unhide HB).cell (p := ⟨b, off + i * 2 + 1, none⟩) hb).trans (e0.2)
      have al : Below wr.heap.size wr (wr.alloc (.cells #[.int .i64 x.1, .int .i64 x.2] 25)) := (Below.refl _ _).alloc (Nat.le_refl _) _
      have KX : Hid (BxP (wr.alloc (.cells #[.int .i64 x.1, .int .i64 x.2] 25)) wr.heap.size x.1 x.2) := hide BxP.new
      replace R0 := hide ((unhide R0).later al)
      replace R1 := hide ((unhide R1).later al)
      replace LO := hide ((unhide LO).later al)
      replace HI := hide ((unhide HI).later al)
      replace HB := hide (below_on (unhide HB) al)
      have s5 : wr.heap.size + 1 ≤ (wr.alloc (.cells #[.int .i64 x.1, .int .i64 x.2] 25)).heap.size := by simp
      clear e0 al
      go_upto_region 6 with fail
      clear E0 E1
      generalize wr.alloc (.cells #[.int .i64 x.1, .int .i64 x.2] 25) = w3 at *
      have x0 := (unhide KX).c0
      have x1 := (unhide KX).c1
      have l0 := (unhide LO).c0
      have l1 := (unhide LO).c1
      have lf := (unhide LO).fz
      have h0' := (unhide HI).c0
      have h1' := (unhide HI).c1
      have hf := (unhide HI).fz
      have n1 : wr.heap.size ≠ w.heap.size + 1 + 1 := by omega
      have n2 : wr.heap.size ≠ w.heap.size + 1 + 1 + 1 := by omega
      have key : ∀ (lx ly hx hy : Int), lx = min u.1 x.1 → ly = min u.2 x.2 → hx = max v.1 x.1 → hy = max v.2 x.2 → Hid (loS l (i + 1) = (lx, ly) ∧ hiS l (i + 1) = (hx, hy)) := fun lx ly hx hy e1 e2 e3 e4 => hide (by rw [unhide HEL, unhide HEH, e1, e2, e3, e4]; exact ⟨rfl, rfl⟩)
      clear HEL HEH
      by_cases c0 : x.1 < u.1
      · have d0 : decide (x.1 < u.1) = true := decide_eq_true c0
        by_cases c1 : x.2 < u.2
        · have d1 : decide (x.2 < u.2) = true := decide_eq_true c1
          by_cases c2 : v.1 < x.1
          · have d2 : decide (v.1 < x.1) = true := decide_eq_true c2
            by_cases c3 : v.2 < x.2
            · have d3 : decide (v.2 < x.2) = true := decide_eq_true c3
              have KK := key x.1 x.2 x.1 x.2 (by omega) (by omega) (by omega) (by omega)
              have FR0 : Hid (BxP ((((w3.setCell ⟨w.heap.size + 1 + 1, 0, none⟩ (.int .i64 x.1)).setCell ⟨w.heap.size + 1 + 1, 1, none⟩ (.int .i64 x.2)).setCell ⟨w.heap.size + 1 + 1 + 1, 0, none⟩ (.int .i64 x.1)).setCell ⟨w.heap.size + 1 + 1 + 1, 1, none⟩ (.int .i64 x.2)) w.heap.size 0 0) := hide (((((unhide R0).other (by omega)).other (by omega)).other (by omega)).other (by omega))
              have FR1 : Hid (BxP ((((w3.setCell ⟨w.heap.size + 1 + 1, 0, none⟩ (.int .i64 x.1)).setCell ⟨w.heap.size + 1 + 1, 1, none⟩ (.int .i64 x.2)).setCell ⟨w.heap.size + 1 + 1 + 1, 0, none⟩ (.int .i64 x.1)).setCell ⟨w.heap.size + 1 + 1 + 1, 1, none⟩ (.int .i64 x.2)) (w.heap.size + 1) 0 0) := hide (((((unhide R1).other (by omega)).other (by omega)).other (by omega)).other (by omega))
              have FLO : Hid (BxP ((((w3.setCell ⟨w.heap.size + 1 + 1, 0, none⟩ (.int .i64 x.1)).setCell ⟨w.heap.size + 1 + 1, 1, none⟩ (.int .i64 x.2)).setCell ⟨w.heap.size + 1 + 1 + 1, 0, none⟩ (.int .i64 x.1)).setCell ⟨w.heap.size + 1 + 1 + 1, 1, none⟩ (.int .i64 x.2)) (w.heap.size + 1 + 1) x.1 x.2) := hide (((((unhide LO).set0).set1).other (by omega)).other (by omega))
              have FHI : Hid (BxP ((((w3.setCell ⟨w.heap.size + 1 + 1, 0, none⟩ (.int .i64 x.1)).setCell ⟨w.heap.size + 1 + 1, 1, none⟩ (.int .i64 x.2)).setCell ⟨w.heap.size + 1 + 1 + 1, 0, none⟩ (.int .i64 x.1)).setCell ⟨w.heap.size + 1 + 1 + 1, 1, none⟩ (.int .i64 x.2)) (w.heap.size + 1 + 1 + 1) x.1 x.2) := hide (((((unhide HI).other (by omega)).other (by omega)).set0).set1)
              have FHB : Hid (Below w.heap.size w ((((w3.setCell ⟨w.heap.size + 1 + 1, 0, none⟩ (.int .i64 x.1)).setCell ⟨w.heap.size + 1 + 1, 1, none⟩ (.int .i64 x.2)).setCell ⟨w.heap.size + 1 + 1 + 1, 0, none⟩ (.int .i64 x.1)).setCell ⟨w.heap.size + 1 + 1 + 1, 1, none⟩ (.int .i64 x.2))) := hide (bel_set (bel_set (bel_set (bel_set (unhide HB) (by omega) (by first | omega | (simp; omega))) (by omega) (by first | omega | (simp; omega))) (by omega) (by first | omega | (simp; omega))) (by omega) (by first | omega | (simp; omega)))
              clear R0 R1 LO HI HB
              go_wp2
              go_roundw
              case rel => exact ⟨i + 1, by omega, by go_num, FR0, FR1, by rw [(unhide KK).1]; exact FLO, by rw [(unhide KK).2]; exact FHI, FHB, by first | omega | (simp; omega)⟩
              case measure => simp [intOf]; omega
            · have d3 : decide (v.2 < x.2) = false := decide_eq_false c3
              have KK := key x.1 x.2 x.1 v.2 (by omega) (by omega) (by omega) (by omega)
              have FR0 : Hid (BxP (((w3.setCell ⟨w.heap.size + 1 + 1, 0, none⟩ (.int .i64 x.1)).setCell ⟨w.heap.size + 1 + 1, 1, none⟩ (.int .i64 x.2)).setCell ⟨w.heap.size + 1 + 1 + 1, 0, none⟩ (.int .i64 x.1)) w.heap.size 0 0) := hide ((((unhide R0).other (by omega)).other (by omega)).other (by omega))
              have FR1 : Hid (BxP (((w3.setCell ⟨w.heap.size + 1 + 1, 0, none⟩ (.int .i64 x.1)).setCell ⟨w.heap.size + 1 + 1, 1, none⟩ (.int .i64 x.2)).setCell ⟨w.heap.size + 1 + 1 + 1, 0, none⟩ (.int .i64 x.1)) (w.heap.size + 1) 0 0) := hide ((((unhide R1).other (by omega)).other (by omega)).other (by omega))
              have FLO : Hid (BxP (((w3.setCell ⟨w.heap.size + 1 + 1, 0, none⟩ (.int .i64 x.1)).setCell ⟨w.heap.size + 1 + 1, 1, none⟩ (.int .i64 x.2)).setCell ⟨w.heap.size + 1 + 1 + 1, 0, none⟩ (.int .i64 x.1)) (w.heap.size + 1 + 1) x.1 x.2) := hide ((((unhide LO).set0).set1).other (by omega))
              have FHI : Hid (BxP (((w3.setCell ⟨w.heap.size + 1 + 1, 0, none⟩ (.int .i64 x.1)).setCell ⟨w.heap.size + 1 + 1, 1, none⟩ (.int .i64 x.2)).setCell ⟨w.heap.size + 1 + 1 + 1, 0, none⟩ (.int .i64 x.1)) (w.heap.size + 1 + 1 + 1) x.1 v.2) := hide ((((unhide HI).other (by omega)).other (by omega)).set0)
              have FHB : Hid (Below w.heap.size w (((w3.setCell ⟨w.heap.size + 1 + 1, 0, none⟩ (.int .i64 x.1)).setCell ⟨w.heap.size + 1 + 1, 1, none⟩ (.int .i64 x.2)).setCell ⟨w.heap.size + 1 + 1 + 1, 0, none⟩ (.int .i64 x.1))) := hide (bel_set (bel_set (bel_set (unhide HB) (by omega) (by first | omega | (simp; omega))) (by omega) (by first | omega | (simp; omega))) (by omega) (by first | omega | (simp; omega)))
              clear R0 R1 LO HI HB
              go_wp2
              go_roundw
              case rel => exact ⟨i + 1, by omega, by go_num, FR0, FR1, by rw [(unhide KK).1]; exact FLO, by rw [(unhide KK).2]; exact FHI, FHB, by first | omega | (simp; omega)⟩
              case measure => simp [intOf]; omega
          · have d2 : decide (v.1 < x.1) = false := decide_eq_false c2
            by_cases c3 : v.2 < x.2
            · have d3 : decide (v.2 < x.2) = true := decide_eq_true c3
              have KK := key x.1 x.2 v.1 x.2 (by omega) (by omega) (by omega) (by omega)
              have FR0 : Hid (BxP (((w3.setCell ⟨w.heap.size + 1 + 1, 0, none⟩ (.int .i64 x.1)).setCell ⟨w.heap.size + 1 + 1, 1, none⟩ (.int .i64 x.2)).setCell ⟨w.heap.size + 1 + 1 + 1, 1, none⟩ (.int .i64 x.2)) w.heap.size 0 0) := hide ((((unhide R0).other (by omega)).other (by omega)).other (by omega))
              have FR1 : Hid (BxP (((w3.setCell ⟨w.heap.size + 1 + 1, 0, none⟩ (.int .i64 x.1)).setCell ⟨w.heap.size + 1 + 1, 1, none⟩ (.int .i64 x.2)).setCell ⟨w.heap.size + 1 + 1 + 1, 1, none⟩ (.int .i64 x.2)) (w.heap.size + 1) 0 0) := hide ((((unhide R1).other (by omega)).other (by omega)).other (by omega))
              have FLO : Hid (BxP (((w3.setCell ⟨w.heap.size + 1 + 1, 0, none⟩ (.int .i64 x.1)).setCell ⟨w.heap.size + 1 + 1, 1, none⟩ (.int .i64 x.2)).setCell ⟨w.heap.size + 1 + 1 + 1, 1, none⟩ (.int .i64 x.2)) (w.heap.size + 1 + 1) x.1 x.2) := hide ((((unhide LO).set0).set1).other (by omega))
              have FHI : Hid (BxP (((w3.setCell ⟨w.heap.size + 1 + 1, 0, none⟩ (.int .i64 x.1)).setCell ⟨w.heap.size + 1 + 1, 1, none⟩ (.int .i64 x.2)).setCell ⟨w.heap.size + 1 + 1 + 1, 1, none⟩ (.int .i64 x.2)) (w.heap.size + 1 + 1 + 1) v.1 x.2) := hide ((((unhide HI).other (by omega)).other (by omega)).set1)
              have FHB : Hid (Below w.heap.size w (((w3.setCell ⟨w.heap.size + 1 + 1, 0, none⟩ (.int .i64 x.1)).setCell ⟨w.heap.size + 1 + 1, 1, none⟩ (.int .i64 x.2)).setCell ⟨w.heap.size + 1 + 1 + 1, 1, none⟩ (.int .i64 x.2))) := hide (bel_set (bel_set (bel_set (unhide HB) (by omega) (by first | omega | (simp; omega))) (by omega) (by first | omega | (simp; omega))) (by omega) (by first | omega | (simp; omega)))
              clear R0 R1 LO HI HB
              go_wp2
              go_roundw
              case rel => exact ⟨i + 1, by omega, by go_num, FR0, FR1, by rw [(unhide KK).1]; exact FLO, by rw [(unhide KK).2]; exact FHI, FHB, by first | omega | (simp; omega)⟩
              case measure => simp [intOf]; omega
            · have d3 : decide (v.2 < x.2) = false := decide_eq_false c3
              have KK := key x.1 x.2 v.1 v.2 (by omega) (by omega) (by omega) (by omega)
              have FR0 : Hid (BxP ((w3.setCell ⟨w.heap.size + 1 + 1, 0, none⟩ (.int .i64 x.1)).setCell ⟨w.heap.size + 1 + 1, 1, none⟩ (.int .i64 x.2)) w.heap.size 0 0) := hide (((unhide R0).other (by omega)).other (by omega))
              have FR1 : Hid (BxP ((w3.setCell ⟨w.heap.size + 1 + 1, 0, none⟩ (.int .i64 x.1)).setCell ⟨w.heap.size + 1 + 1, 1, none⟩ (.int .i64 x.2)) (w.heap.size + 1) 0 0) := hide (((unhide R1).other (by omega)).other (by omega))
              have FLO : Hid (BxP ((w3.setCell ⟨w.heap.size + 1 + 1, 0, none⟩ (.int .i64 x.1)).setCell ⟨w.heap.size + 1 + 1, 1, none⟩ (.int .i64 x.2)) (w.heap.size + 1 + 1) x.1 x.2) := hide (((unhide LO).set0).set1)
              have FHI : Hid (BxP ((w3.setCell ⟨w.heap.size + 1 + 1, 0, none⟩ (.int .i64 x.1)).setCell ⟨w.heap.size + 1 + 1, 1, none⟩ (.int .i64 x.2)) (w.heap.size + 1 + 1 + 1) v.1 v.2) := hide (((unhide HI).other (by omega)).other (by omega))
              have FHB : Hid (Below w.heap.size w ((w3.setCell ⟨w.heap.size + 1 + 1, 0, none⟩ (.int .i64 x.1)).setCell ⟨w.heap.size + 1 + 1, 1, none⟩ (.int .i64 x.2))) := hide (bel_set (bel_set (unhide HB) (by omega) (by first | omega | (simp; omega))) (by omega) (by first | omega | (simp; omega)))
              clear R0 R1 LO HI HB
              go_wp2
              go_roundw
              case rel => exact ⟨i + 1, by omega, by go_num, FR0, FR1, by rw [(unhide KK).1]; exact FLO, by rw [(unhide KK).2]; exact FHI, FHB, by first | omega | (simp; omega)⟩
              case measure => simp [intOf]; omega
        · have d1 : decide (x.2 < u.2) = false := decide_eq_false c1
          by_cases c2 : v.1 < x.1
          · have d2 : decide (v.1 < x.1) = true := decide_eq_true c2
            by_cases c3 : v.2 < x.2
            · have d3 : decide (v.2 < x.2) = true := decide_eq_true c3
              have KK := key x.1 u.2 x.1 x.2 (by omega) (by omega) (by omega) (by omega)
              have FR0 : Hid (BxP (((w3.setCell ⟨w.heap.size + 1 + 1, 0, none⟩ (.int .i64 x.1)).setCell ⟨w.heap.size + 1 + 1 + 1, 0, none⟩ (.int .i64 x.1)).setCell ⟨w.heap.size + 1 + 1 + 1, 1, none⟩ (.int .i64 x.2)) w.heap.size 0 0) := hide ((((unhide R0).other (by omega)).other (by omega)).other (by omega))
              have FR1 : Hid (BxP (((w3.setCell ⟨w.heap.size + 1 + 1, 0, none⟩ (.int .i64 x.1)).setCell ⟨w.heap.size + 1 + 1 + 1, 0, none⟩ (.int .i64 x.1)).setCell ⟨w.heap.size + 1 + 1 + 1, 1, none⟩ (.int .i64 x.2)) (w.heap.size + 1) 0 0) := hide ((((unhide R1).other (by omega)).other (by omega)).other (by omega))
              have FLO : Hid (BxP (((w3.setCell ⟨w.heap.size + 1 + 1, 0, none⟩ (.int .i64 x.1)).setCell ⟨w.heap.size + 1 + 1 + 1, 0, none⟩ (.int .i64 x.1)).setCell ⟨w.heap.size + 1 + 1 + 1, 1, none⟩ (.int .i64 x.2)) (w.heap.size + 1 + 1) x.1 u.2) := hide ((((unhide LO).set0).other (by omega)).other (by omega))
              have FHI : Hid (BxP (((w3.setCell ⟨w.heap.size + 1 + 1, 0, none⟩ (.int .i64 x.1)).setCell ⟨w.heap.size + 1 + 1 + 1, 0, none⟩ (.int .i64 x.1)).setCell ⟨w.heap.size + 1 + 1 + 1, 1, none⟩ (.int .i64 x.2)) (w.heap.size + 1 + 1 + 1) x.1 x.2) := hide ((((unhide HI).other (by omega)).set0).set1)
              have FHB : Hid (Below w.heap.size w (((w3.setCell ⟨w.heap.size + 1 + 1, 0, none⟩ (.int .i64 x.1)).setCell ⟨w.heap.size + 1 + 1 + 1, 0, none⟩ (.int .i64 x.1)).setCell ⟨w.heap.size + 1 + 1 + 1, 1, none⟩ (.int .i64 x.2))) := hide (bel_set (bel_set (bel_set (unhide HB) (by omega) (by first | omega | (simp; omega))) (by omega) (by first | omega | (simp; omega))) (by omega) (by first | omega | (simp; omega)))
              clear R0 R1 LO HI HB
              go_wp2
              go_roundw
              case rel => exact ⟨i + 1, by omega, by go_num, FR0, FR1, by rw [(unhide KK).1]; exact FLO, by rw [(unhide KK).2]; exact FHI, FHB, by first | omega | (simp; omega)⟩
              case measure => simp [intOf]; omega
            · have d3 : decide (v.2 < x.2) = false := decide_eq_false c3
              have KK := key x.1 u.2 x.1 v.2 (by omega) (by omega) (by omega) (by omega)
              have FR0 : Hid (BxP ((w3.setCell ⟨w.heap.size + 1 + 1, 0, none⟩ (.int .i64 x.1)).setCell ⟨w.heap.size + 1 + 1 + 1, 0, none⟩ (.int .i64 x.1)) w.heap.size 0 0) := hide (((unhide R0).other (by omega)).other (by omega))
              have FR1 : Hid (BxP ((w3.setCell ⟨w.heap.size + 1 + 1, 0, none⟩ (.int .i64 x.1)).setCell ⟨w.heap.size + 1 + 1 + 1, 0, none⟩ (.int .i64 x.1)) (w.heap.size + 1) 0 0) := hide (((unhide R1).other (by omega)).other (by omega))
              have FLO : Hid (BxP ((w3.setCell ⟨w.heap.size + 1 + 1, 0, none⟩ (.int .i64 x.1)).setCell ⟨w.heap.size + 1 + 1 + 1, 0, none⟩ (.int .i64 x.1)) (w.heap.size + 1 + 1) x.1 u.2) := hide (((unhide LO).set0).other (by omega))
              have FHI : Hid (BxP ((w3.setCell ⟨w.heap.size + 1 + 1, 0, none⟩ (.int .i64 x.1)).setCell ⟨w.heap.size + 1 + 1 + 1, 0, none⟩ (.int .i64 x.1)) (w.heap.size + 1 + 1 + 1) x.1 v.2) := hide (((unhide HI).other (by omega)).set0)
              have FHB : Hid (Below w.heap.size w ((w3.setCell ⟨w.heap.size + 1 + 1, 0, none⟩ (.int .i64 x.1)).setCell ⟨w.heap.size + 1 + 1 + 1, 0, none⟩ (.int .i64 x.1))) := hide (bel_set (bel_set (unhide HB) (by omega) (by first | omega | (simp; omega))) (by omega) (by first | omega | (simp; omega)))
              clear R0 R1 LO HI HB
              go_wp2
              go_roundw
              case rel => exact ⟨i + 1, by omega, by go_num, FR0, FR1, by rw [(unhide KK).1]; exact FLO, by rw [(unhide KK).2]; exact FHI, FHB, by first | omega | (simp; omega)⟩
              case measure => simp [intOf]; omega
          · have d2 : decide (v.1 < x.1) = false := decide_eq_false c2
            by_cases c3 : v.2 < x.2
            · have d3 : decide (v.2 < x.2) = true := decide_eq_true c3
              have KK := key x.1 u.2 v.1 x.2 (by omega) (by omega) (by omega) (by omega)
              have FR0 : Hid (BxP ((w3.setCell ⟨w.heap.size + 1 + 1, 0, none⟩ (.int .i64 x.1)).setCell ⟨w.heap.size + 1 + 1 + 1, 1, none⟩ (.int .i64 x.2)) w.heap.size 0 0) := hide (((unhide R0).other (by omega)).other (by omega))
              have FR1 : Hid (BxP ((w3.setCell ⟨w.heap.size + 1 + 1, 0, none⟩ (.int .i64 x.1)).setCell ⟨w.heap.size + 1 + 1 + 1, 1, none⟩ (.int .i64 x.2)) (w.heap.size + 1) 0 0) := hide (((unhide R1).other (by omega)).other (by omega))
              have FLO : Hid (BxP ((w3.setCell ⟨w.heap.size + 1 + 1, 0, none⟩ (.int .i64 x.1)).setCell ⟨w.heap.size + 1 + 1 + 1, 1, none⟩ (.int .i64 x.2)) (w.heap.size + 1 + 1) x.1 u.2) := hide (((unhide LO).set0).other (by omega))
              have FHI : Hid (BxP ((w3.setCell ⟨w.heap.size + 1 + 1, 0, none⟩ (.int .i64 x.1)).setCell ⟨w.heap.size + 1 + 1 + 1, 1, none⟩ (.int .i64 x.2)) (w.heap.size + 1 + 1 + 1) v.1 x.2) := hide (((unhide HI).other (by omega)).set1)
              have FHB : Hid (Below w.heap.size w ((w3.setCell ⟨w.heap.size + 1 + 1, 0, none⟩ (.int .i64 x.1)).setCell ⟨w.heap.size + 1 + 1 + 1, 1, none⟩ (.int .i64 x.2))) := hide (bel_set (bel_set (unhide HB) (by omega) (by first | omega | (simp; omega))) (by omega) (by first | omega | (simp; omega)))
              clear R0 R1 LO HI HB
              go_wp2
              go_roundw
              case rel => exact ⟨i + 1, by omega, by go_num, FR0, FR1, by rw [(unhide KK).1]; exact FLO, by rw [(unhide KK).2]; exact FHI, FHB, by first | omega | (simp; omega)⟩
              case measure => simp [intOf]; omega
            · have d3 : decide (v.2 < x.2) = false := decide_eq_false c3
              have KK := key x.1 u.2 v.1 v.2 (by omega) (by omega) (by omega) (by omega)
              have FR0 : Hid (BxP (w3.setCell ⟨w.heap.size + 1 + 1, 0, none⟩ (.int .i64 x.1)) w.heap.size 0 0) := hide ((unhide R0).other (by omega))
              have FR1 : Hid (BxP (w3.setCell ⟨w.heap.size + 1 + 1, 0, none⟩ (.int .i64 x.1)) (w.heap.size + 1) 0 0) := hide ((unhide R1).other (by omega))
              have FLO : Hid (BxP (w3.setCell ⟨w.heap.size + 1 + 1, 0, none⟩ (.int .i64 x.1)) (w.heap.size + 1 + 1) x.1 u.2) := hide ((unhide LO).set0)
              have FHI : Hid (BxP (w3.setCell ⟨w.heap.size + 1 + 1, 0, none⟩ (.int .i64 x.1)) (w.heap.size + 1 + 1 + 1) v.1 v.2) := hide ((unhide HI).other (by omega))
              have FHB : Hid (Below w.heap.size w (w3.setCell ⟨w.heap.size + 1 + 1, 0, none⟩ (.int .i64 x.1))) := hide (bel_set (unhide HB) (by omega) (by first | omega | (simp; omega)))
              clear R0 R1 LO HI HB
              go_wp2
              go_roundw
              case rel => exact ⟨i + 1, by omega, by go_num, FR0, FR1, by rw [(unhide KK).1]; exact FLO, by rw [(unhide KK).2]; exact FHI, FHB, by first | omega | (simp; omega)⟩
              case measure => simp [intOf]; omega
      · have d0 : decide (x.1 < u.1) = false := decide_eq_false c0
        by_cases c1 : x.2 < u.2
        · have d1 : decide (x.2 < u.2) = true := decide_eq_true c1
          by_cases c2 : v.1 < x.1
          · have d2 : decide (v.1 < x.1) = true := decide_eq_true c2
            by_cases c3 : v.2 < x.2
            · have d3 : decide (v.2 < x.2) = true := decide_eq_true c3
              have KK := key u.1 x.2 x.1 x.2 (by omega) (by omega) (by omega) (by omega)
              have FR0 : Hid (BxP (((w3.setCell ⟨w.heap.size + 1 + 1, 1, none⟩ (.int .i64 x.2)).setCell ⟨w.heap.size + 1 + 1 + 1, 0, none⟩ (.int .i64 x.1)).setCell ⟨w.heap.size + 1 + 1 + 1, 1, none⟩ (.int .i64 x.2)) w.heap.size 0 0) := hide ((((unhide R0).other (by omega)).other (by omega)).other (by omega))
              have FR1 : Hid (BxP (((w3.setCell ⟨w.heap.size + 1 + 1, 1, none⟩ (.int .i64 x.2)).setCell ⟨w.heap.size + 1 + 1 + 1, 0, none⟩ (.int .i64 x.1)).setCell ⟨w.heap.size + 1 + 1 + 1, 1, none⟩ (.int .i64 x.2)) (w.heap.size + 1) 0 0) := hide ((((unhide R1).other (by omega)).other (by omega)).other (by omega))
              have FLO : Hid (BxP (((w3.setCell ⟨w.heap.size + 1 + 1, 1, none⟩ (.int .i64 x.2)).setCell ⟨w.heap.size + 1 + 1 + 1, 0, none⟩ (.int .i64 x.1)).setCell ⟨w.heap.size + 1 + 1 + 1, 1, none⟩ (.int .i64 x.2)) (w.heap.size + 1 + 1) u.1 x.2) := hide ((((unhide LO).set1).other (by omega)).other (by omega))
              have FHI : Hid (BxP (((w3.setCell ⟨w.heap.size + 1 + 1, 1, none⟩ (.int .i64 x.2)).setCell ⟨w.heap.size + 1 + 1 + 1, 0, none⟩ (.int .i64 x.1)).setCell ⟨w.heap.size + 1 + 1 + 1, 1, none⟩ (.int .i64 x.2)) (w.heap.size + 1 + 1 + 1) x.1 x.2) := hide ((((unhide HI).other (by omega)).set0).set1)
              have FHB : Hid (Below w.heap.size w (((w3.setCell ⟨w.heap.size + 1 + 1, 1, none⟩ (.int .i64 x.2)).setCell ⟨w.heap.size + 1 + 1 + 1, 0, none⟩ (.int .i64 x.1)).setCell ⟨w.heap.size + 1 + 1 + 1, 1, none⟩ (.int .i64 x.2))) := hide (bel_set (bel_set (bel_set (unhide HB) (by omega) (by first | omega | (simp; omega))) (by omega) (by first | omega | (simp; omega))) (by omega) (by first | omega | (simp; omega)))
              clear R0 R1 LO HI HB
              go_wp2
              go_roundw
              case rel => exact ⟨i + 1, by omega, by go_num, FR0, FR1, by rw [(unhide KK).1]; exact FLO, by rw [(unhide KK).2]; exact FHI, FHB, by first | omega | (simp; omega)⟩
              case measure => simp [intOf]; omega
            · have d3 : decide (v.2 < x.2) = false := decide_eq_false c3
              have KK := key u.1 x.2 x.1 v.2 (by omega) (by omega) (by omega) (by omega)
              have FR0 : Hid (BxP ((w3.setCell ⟨w.heap.size + 1 + 1, 1, none⟩ (.int .i64 x.2)).setCell ⟨w.heap.size + 1 + 1 + 1, 0, none⟩ (.int .i64 x.1)) w.heap.size 0 0) := hide (((unhide R0).other (by omega)).other (by omega))
              have FR1 : Hid (BxP ((w3.setCell ⟨w.heap.size + 1 + 1, 1, none⟩ (.int .i64 x.2)).setCell ⟨w.heap.size + 1 + 1 + 1, 0, none⟩ (.int .i64 x.1)) (w.heap.size + 1) 0 0) := hide (((unhide R1).other (by omega)).other (by omega))
              have FLO : Hid (BxP ((w3.setCell ⟨w.heap.size + 1 + 1, 1, none⟩ (.int .i64 x.2)).setCell ⟨w.heap.size + 1 + 1 + 1, 0, none⟩ (.int .i64 x.1)) (w.heap.size + 1 + 1) u.1 x.2) := hide (((unhide LO).set1).other (by omega))
              have FHI : Hid (BxP ((w3.setCell ⟨w.heap.size + 1 + 1, 1, none⟩ (.int .i64 x.2)).setCell ⟨w.heap.size + 1 + 1 + 1, 0, none⟩ (.int .i64 x.1)) (w.heap.size + 1 + 1 + 1) x.1 v.2) := hide (((unhide HI).other (by omega)).set0)
              have FHB : Hid (Below w.heap.size w ((w3.setCell ⟨w.heap.size + 1 + 1, 1, none⟩ (.int .i64 x.2)).setCell ⟨w.heap.size + 1 + 1 + 1, 0, none⟩ (.int .i64 x.1))) := hide (bel_set (bel_set (unhide HB) (by omega) (by first | omega | (simp; omega))) (by omega) (by first | omega | (simp; omega)))
              clear R0 R1 LO HI HB
              go_wp2
              go_roundw
              case rel => exact ⟨i + 1, by omega, by go_num, FR0, FR1, by rw [(unhide KK).1]; exact FLO, by rw [(unhide KK).2]; exact FHI, FHB, by first | omega | (simp; omega)⟩
              case measure => simp [intOf]; omega
          · have d2 : decide (v.1 < x.1) = false := decide_eq_false c2
            by_cases c3 : v.2 < x.2
            · have d3 : decide (v.2 < x.2) = true := decide_eq_true c3
              have KK := key u.1 x.2 v.1 x.2 (by omega) (by omega) (by omega) (by omega)
              have FR0 : Hid (BxP ((w3.setCell ⟨w.heap.size + 1 + 1, 1, none⟩ (.int .i64 x.2)).setCell ⟨w.heap.size + 1 + 1 + 1, 1, none⟩ (.int .i64 x.2)) w.heap.size 0 0) := hide (((unhide R0).other (by omega)).other (by omega))
              have FR1 : Hid (BxP ((w3.setCell ⟨w.heap.size + 1 + 1, 1, none⟩ (.int .i64 x.2)).setCell ⟨w.heap.size + 1 + 1 + 1, 1, none⟩ (.int .i64 x.2)) (w.heap.size + 1) 0 0) := hide (((unhide R1).other (by omega)).other (by omega))
              have FLO : Hid (BxP ((w3.setCell ⟨w.heap.size + 1 + 1, 1, none⟩ (.int .i64 x.2)).setCell ⟨w.heap.size + 1 + 1 + 1, 1, none⟩ (.int .i64 x.2)) (w.heap.size + 1 + 1) u.1 x.2) := hide (((unhide LO).set1).other (by omega))
              have FHI : Hid (BxP ((w3.setCell ⟨w.heap.size + 1 + 1, 1, none⟩ (.int .i64 x.2)).setCell ⟨w.heap.size + 1 + 1 + 1, 1, none⟩ (.int .i64 x.2)) (w.heap.size + 1 + 1 + 1) v.1 x.2) := hide (((unhide HI).other (by omega)).set1)
              have FHB : Hid (Below w.heap.size w ((w3.setCell ⟨w.heap.size + 1 + 1, 1, none⟩ (.int .i64 x.2)).setCell ⟨w.heap.size + 1 + 1 + 1, 1, none⟩ (.int .i64 x.2))) := hide (bel_set (bel_set (unhide HB) (by omega) (by first | omega | (simp; omega))) (by omega) (by first | omega | (simp; omega)))
              clear R0 R1 LO HI HB
              go_wp2
              go_roundw
              case rel => exact ⟨i + 1, by omega, by go_num, FR0, FR1, by rw [(unhide KK).1]; exact FLO, by rw [(unhide KK).2]; exact FHI, FHB, by first | omega | (simp; omega)⟩
              case measure => simp [intOf]; omega
            · have d3 : decide (v.2 < x.2) = false := decide_eq_false c3
              have KK := key u.1 x.2 v.1 v.2 (by omega) (by omega) (by omega) (by omega)
              have FR0 : Hid (BxP (w3.setCell ⟨w.heap.size + 1 + 1, 1, none⟩ (.int .i64 x.2)) w.heap.size 0 0) := hide ((unhide R0).other (by omega))
              have FR1 : Hid (BxP (w3.setCell ⟨w.heap.size + 1 + 1, 1, none⟩ (.int .i64 x.2)) (w.heap.size + 1) 0 0) := hide ((unhide R1).other (by omega))
              have FLO : Hid (BxP (w3.setCell ⟨w.heap.size + 1 + 1, 1, none⟩ (.int .i64 x.2)) (w.heap.size + 1 + 1) u.1 x.2) := hide ((unhide LO).set1)
              have FHI : Hid (BxP (w3.setCell ⟨w.heap.size + 1 + 1, 1, none⟩ (.int .i64 x.2)) (w.heap.size + 1 + 1 + 1) v.1 v.2) := hide ((unhide HI).other (by omega))
              have FHB : Hid (Below w.heap.size w (w3.setCell ⟨w.heap.size + 1 + 1, 1, none⟩ (.int .i64 x.2))) := hide (bel_set (unhide HB) (by omega) (by first | omega | (simp; omega)))
              clear R0 R1 LO HI HB
              go_wp2
              go_roundw
              case rel => exact ⟨i + 1, by omega, by go_num, FR0, FR1, by rw [(unhide KK).1]; exact FLO, by rw [(unhide KK).2]; exact FHI, FHB, by first | omega | (simp; omega)⟩
              case measure => simp [intOf]; omega
        · have d1 : decide (x.2 < u.2) = false := decide_eq_false c1
          by_cases c2 : v.1 < x.1
          · have d2 : decide (v.1 < x.1) = true := decide_eq_true c2
            by_cases c3 : v.2 < x.2
            · have d3 : decide (v.2 < x.2) = true := decide_eq_true c3
              have KK := key u.1 u.2 x.1 x.2 (by omega) (by omega) (by omega) (by omega)
              have FR0 : Hid (BxP ((w3.setCell ⟨w.heap.size + 1 + 1 + 1, 0, none⟩ (.int .i64 x.1)).setCell ⟨w.heap.size + 1 + 1 + 1, 1, none⟩ (.int .i64 x.2)) w.heap.size 0 0) := hide (((unhide R0).other (by omega)).other (by omega))
              have FR1 : Hid (BxP ((w3.setCell ⟨w.heap.size + 1 + 1 + 1, 0, none⟩ (.int .i64 x.1)).setCell ⟨w.heap.size + 1 + 1 + 1, 1, none⟩ (.int .i64 x.2)) (w.heap.size + 1) 0 0) := hide (((unhide R1).other (by omega)).other (by omega))
              have FLO : Hid (BxP ((w3.setCell ⟨w.heap.size + 1 + 1 + 1, 0, none⟩ (.int .i64 x.1)).setCell ⟨w.heap.size + 1 + 1 + 1, 1, none⟩ (.int .i64 x.2)) (w.heap.size + 1 + 1) u.1 u.2) := hide (((unhide LO).other (by omega)).other (by omega))
              have FHI : Hid (BxP ((w3.setCell ⟨w.heap.size + 1 + 1 + 1, 0, none⟩ (.int .i64 x.1)).setCell ⟨w.heap.size + 1 + 1 + 1, 1, none⟩ (.int .i64 x.2)) (w.heap.size + 1 + 1 + 1) x.1 x.2) := hide (((unhide HI).set0).set1)
              have FHB : Hid (Below w.heap.size w ((w3.setCell ⟨w.heap.size + 1 + 1 + 1, 0, none⟩ (.int .i64 x.1)).setCell ⟨w.heap.size + 1 + 1 + 1, 1, none⟩ (.int .i64 x.2))) := hide (bel_set (bel_set (unhide HB) (by omega) (by first | omega | (simp; omega))) (by omega) (by first | omega | (simp; omega)))
              clear R0 R1 LO HI HB
              go_wp2
              go_roundw
              case rel => exact ⟨i + 1, by omega, by go_num, FR0, FR1, by rw [(unhide KK).1]; exact FLO, by rw [(unhide KK).2]; exact FHI, FHB, by first | omega | (simp; omega)⟩
              case measure => simp [intOf]; omega
            · have d3 : decide (v.2 < x.2) = false := decide_eq_false c3
              have KK := key u.1 u.2 x.1 v.2 (by omega) (by omega) (by omega) (by omega)
              have FR0 : Hid (BxP (w3.setCell ⟨w.heap.size + 1 + 1 + 1, 0, none⟩ (.int .i64 x.1)) w.heap.size 0 0) := hide ((unhide R0).other (by omega))
              have FR1 : Hid (BxP (w3.setCell ⟨w.heap.size + 1 + 1 + 1, 0, none⟩ (.int .i64 x.1)) (w.heap.size + 1) 0 0) := hide ((unhide R1).other (by omega))
              have FLO : Hid (BxP (w3.setCell ⟨w.heap.size + 1 + 1 + 1, 0, none⟩ (.int .i64 x.1)) (w.heap.size + 1 + 1) u.1 u.2) := hide ((unhide LO).other (by omega))
              have FHI : Hid (BxP (w3.setCell ⟨w.heap.size + 1 + 1 + 1, 0, none⟩ (.int .i64 x.1)) (w.heap.size + 1 + 1 + 1) x.1 v.2) := hide ((unhide HI).set0)
              have FHB : Hid (Below w.heap.size w (w3.setCell ⟨w.heap.size + 1 + 1 + 1, 0, none⟩ (.int .i64 x.1))) := hide (bel_set (unhide HB) (by omega) (by first | omega | (simp; omega)))
              clear R0 R1 LO HI HB
              go_wp2
              go_roundw
              case rel => exact ⟨i + 1, by omega, by go_num, FR0, FR1, by rw [(unhide KK).1]; exact FLO, by rw [(unhide KK).2]; exact FHI, FHB, by first | omega | (simp; omega)⟩
              case measure => simp [intOf]; omega
          · have d2 : decide (v.1 < x.1) = false := decide_eq_false c2
            by_cases c3 : v.2 < x.2
            · have d3 : decide (v.2 < x.2) = true := decide_eq_true c3
              have KK := key u.1 u.2 v.1 x.2 (by omega) (by omega) (by omega) (by omega)
              have FR0 : Hid (BxP (w3.setCell ⟨w.heap.size + 1 + 1 + 1, 1, none⟩ (.int .i64 x.2)) w.heap.size 0 0) := hide ((unhide R0).other (by omega))
              have FR1 : Hid (BxP (w3.setCell ⟨w.heap.size + 1 + 1 + 1, 1, none⟩ (.int .i64 x.2)) (w.heap.size + 1) 0 0) := hide ((unhide R1).other (by omega))
              have FLO : Hid (BxP (w3.setCell ⟨w.heap.size + 1 + 1 + 1, 1, none⟩ (.int .i64 x.2)) (w.heap.size + 1 + 1) u.1 u.2) := hide ((unhide LO).other (by omega))
              have FHI : Hid (BxP (w3.setCell ⟨w.heap.size + 1 + 1 + 1, 1, none⟩ (.int .i64 x.2)) (w.heap.size + 1 + 1 + 1) v.1 x.2) := hide ((unhide HI).set1)
              have FHB : Hid (Below w.heap.size w (w3.setCell ⟨w.heap.size + 1 + 1 + 1, 1, none⟩ (.int .i64 x.2))) := hide (bel_set (unhide HB) (by omega) (by first | omega | (simp; omega)))
              clear R0 R1 LO HI HB
              go_wp2
              go_roundw
              case rel => exact ⟨i + 1, by omega, by go_num, FR0, FR1, by rw [(unhide KK).1]; exact FLO, by rw [(unhide KK).2]; exact FHI, FHB, by first | omega | (simp; omega)⟩
              case measure => simp [intOf]; omega
            · have d3 : decide (v.2 < x.2) = false := decide_eq_false c3
              have KK := key u.1 u.2 v.1 v.2 (by omega) (by omega) (by omega) (by omega)
              have FR0 : Hid (BxP w3 w.heap.size 0 0) := hide (unhide R0)
              have FR1 : Hid (BxP w3 (w.heap.size + 1) 0 0) := hide (unhide R1)
              have FLO : Hid (BxP w3 (w.heap.size + 1 + 1) u.1 u.2) := hide (unhide LO)
              have FHI : Hid (BxP w3 (w.heap.size + 1 + 1 + 1) v.1 v.2) := hide (unhide HI)
              have FHB : Hid (Below w.heap.size w w3) := hide (unhide HB)
              clear R0 R1 LO HI HB
              go_wp2
              go_roundw
              case rel => exact ⟨i + 1, by omega, by go_num, FR0, FR1, by rw [(unhide KK).1]; exact FLO, by rw [(unhide KK).2]; exact FHI, FHB, by first | omega | (simp; omega)⟩
              case measure => simp [intOf]; omega
    · obtain rfl : i = n := by omega
      have EN : Hid (loS l i = loS l l.length ∧ hiS l i = hiS l l.length) := hide (by rw [unhide HN]; exact ⟨rfl, rfl⟩)
      have l0 := (unhide LO).c0
      have l1 := (unhide LO).c1
      have h0' := (unhide HI).c0
      have h1' := (unhide HI).c1
      have a0 := (unhide R0).c0
      have a1 := (unhide R0).c1
      have af := (unhide R0).fz
      have b0 := (unhide R1).c0
      have b1 := (unhide R1).c1
      have bf := (unhide R1).fz
      have G0 := hide (bel_set (v := .int .i64 (hiS l i).2) (i := 1) (bel_set (v := .int .i64 (hiS l i).1) (i := 0) (bel_set (v := .int .i64 (loS l i).2) (i := 1) (bel_set (v := .int .i64 (loS l i).1) (i := 0) (unhide HB).drew (Nat.le_refl w.heap.size) (by simp; omega)) (Nat.le_refl _) (by simp; omega)) (show w.heap.size ≤ w.heap.size + 1 by omega) (by simp; omega)) (show w.heap.size ≤ w.heap.size + 1 by omega) (by simp; omega))
      rw [(unhide EN).1, (unhide EN).2] at G0
      rw [(unhide EN).1] at l0 l1
      rw [(unhide EN).2] at h0' h1'
      clear R0 R1 LO HI HB
      generalize hu : loS l l.length = u at *
      generalize hv : hiS l l.length = v at *
      have HU := hide (And.intro hu hv)
      clear hu hv
      go_upto_region 15 with fail
      go_region
      go_wp2_with fail
      refine bodyPost_ret (v := .tuple #[.agg #[.int .i64 u.1, .int .i64 u.2], .agg #[.int .i64 v.1, .int .i64 v.2]]) (by simp [results, Try.results65, go_sem, a0, a1, b0, b1]) rfl ?_
      exact ⟨by rw [(unhide HU).1, (unhide HU).2], unhide G0⟩
def bxL (l : List (Int × Int)) : Int × Int := if wayB l then loS l l.length else (0, 0)
def bxH (l : List (Int × Int)) : Int × Int := if wayB l then hiS l l.length else (0, 0)
set_option maxHeartbeats 4000000 in
theorem BoxOfS (a : Option Addr) (n c : Nat) (l : List (Int × Int)) (w : World) (h : ArP w a n c l) (h1 : n ≤ 1048576) :
    Calls Try.prog 34 #[.slice a n c] w fun e w' => e = .returned (.tuple #[.agg #[.int .i64 (bxL l).1, .int .i64 (bxL l).2], .agg #[.int .i64 (bxH l).1, .int .i64 (bxH l).2], .bool (wayB l)]) ∧ Below w.heap.size w w' := by
  have hn := h.len
  have C1 := hide (fun w (k : SlP w a l) => wayS a n c l w k hn (by unfold maxLen; omega))
  have al : Below w.heap.size w ((w.alloc (.cells #[.int .i64 0, .int .i64 0] 25)).alloc (.cells #[.int .i64 0, .int .i64 0] 25)) := ((Below.refl _ _).alloc (Nat.le_refl _) _).alloc (by simp) _
  have HS := hide (h.sl.later al)
  have BA := hide al
  have z1 : (w.alloc (.cells #[.int .i64 0, .int .i64 0] 25)).heap.size = w.heap.size + 1 := by simp
  have R0 : Hid (BxP ((w.alloc (.cells #[.int .i64 0, .int .i64 0] 25)).alloc (.cells #[.int .i64 0, .int .i64 0] 25)) w.heap.size 0 0) := hide (BxP.new.later ((Below.refl _ _).alloc (Nat.le_refl _) _))
  have R1 : Hid (BxP ((w.alloc (.cells #[.int .i64 0, .int .i64 0] 25)).alloc (.cells #[.int .i64 0, .int .i64 0] 25)) (w.heap.size + 1) 0 0) := hide (z1 ▸ BxP.new)
  have s2 : w.heap.size + 1 + 1 ≤ ((w.alloc (.cells #[.int .i64 0, .int .i64 0] 25)).alloc (.cells #[.int .i64 0, .int .i64 0] 25)).heap.size := by simp
  clear h al z1
  cases hg : wayB l
  · have EL : bxL l = (0, 0) := by unfold bxL; rw [hg]; rfl
    have EH : bxH l = (0, 0) := by unfold bxH; rw [hg]; rfl
    rw [EL, EH]
    rw [hg] at C1
    clear hg EL EH
    go_enter Try.func34, Try.ntmps34
    go_wp2_with fail
    refine (unhide C1 _ (unhide HS)).mono ?_
    rintro e w1 ⟨rfl, hb⟩
    have sz := hb.size
    have HB := hide (below_on (unhide BA) hb)
    replace R0 := hide ((unhide R0).later hb)
    replace R1 := hide ((unhide R1).later hb)
    have a0 := (unhide R0).c0
    have a1 := (unhide R0).c1
    have af := (unhide R0).fz
    have b0 := (unhide R1).c0
    have b1 := (unhide R1).c1
    have bf := (unhide R1).fz
    have G0 : Hid (Below w.heap.size w ((((w1.setCell ⟨w.heap.size, 0, none⟩ (.int .i64 0)).setCell ⟨w.heap.size, 1, none⟩ (.int .i64 0)).setCell ⟨w.heap.size + 1, 0, none⟩ (.int .i64 0)).setCell ⟨w.heap.size + 1, 1, none⟩ (.int .i64 0))) := hide (bel_set (bel_set (bel_set (bel_set (unhide HB) (Nat.le_refl _) (by omega)) (Nat.le_refl _) (by simp; omega)) (by omega) (by simp; omega)) (by omega) (by simp; omega))
    clear hb HS R0 R1
    go_wp2_with fail
    refine bodyPost_ret (v := .tuple #[.agg #[.int .i64 0, .int .i64 0], .agg #[.int .i64 0, .int .i64 0], .bool false]) (by simp [results, Try.results34, go_sem, a0, a1, b0, b1]) rfl ?_
    exact ⟨rfl, unhide G0⟩
  · have EL : bxL l = loS l l.length := by unfold bxL; rw [hg]; rfl
    have EH : bxH l = hiS l l.length := by unfold bxH; rw [hg]; rfl
    have wp := (way_parts hg).1
    have C2 := hide (fun w (k : SlP w a l) => boxS9 a n c l w k hn (by omega) (by omega))
    rw [EL, EH]
    rw [hg] at C1
    generalize loS l l.length = u at *
    generalize hiS l l.length = v at *
    clear hg EL EH
    go_enter Try.func34, Try.ntmps34
    go_wp2_with fail
    refine (unhide C1 _ (unhide HS)).mono ?_
    rintro e w1 ⟨rfl, hb⟩
    have sz := hb.size
    have HB := hide (below_on (unhide BA) hb)
    replace R0 := hide ((unhide R0).later hb)
    replace R1 := hide ((unhide R1).later hb)
    replace HS := hide ((unhide HS).later hb)
    clear hb
    go_wp2_with fail
    refine (unhide C2 _ (unhide HS)).mono ?_
    rintro e w2 ⟨rfl, hb⟩
    have sz2 := hb.size
    have al : Below w2.heap.size w2 ((w2.alloc (.cells #[.int .i64 u.1, .int .i64 u.2] 25)).alloc (.cells #[.int .i64 v.1, .int .i64 v.2] 25)) := ((Below.refl _ _).alloc (Nat.le_refl _) _).alloc (by simp) _
    have bel := below_on hb al
    replace HB := hide (below_on (unhide HB) bel)
    replace R0 := hide ((unhide R0).later bel)
    replace R1 := hide ((unhide R1).later bel)
    have z1 : (w2.alloc (.cells #[.int .i64 u.1, .int .i64 u.2] 25)).heap.size = w2.heap.size + 1 := by simp
    have LO : Hid (BxP ((w2.alloc (.cells #[.int .i64 u.1, .int .i64 u.2] 25)).alloc (.cells #[.int .i64 v.1, .int .i64 v.2] 25)) w2.heap.size u.1 u.2) := hide (BxP.new.later ((Below.refl _ _).alloc (Nat.le_refl _) _))
    have HI : Hid (BxP ((w2.alloc (.cells #[.int .i64 u.1, .int .i64 u.2] 25)).alloc (.cells #[.int .i64 v.1, .int .i64 v.2] 25)) (w2.heap.size + 1) v.1 v.2) := hide (z1 ▸ BxP.new)
    have sz3 : w2.heap.size + 1 + 1 ≤ ((w2.alloc (.cells #[.int .i64 u.1, .int .i64 u.2] 25)).alloc (.cells #[.int .i64 v.1, .int .i64 v.2] 25)).heap.size := by simp
    clear hb bel al z1 HS
    go_upto_region 4 with fail
    generalize ((w2.alloc (.cells #[.int .i64 u.1, .int .i64 u.2] 25)).alloc (.cells #[.int .i64 v.1, .int .i64 v.2] 25)) = w3 at *
    have a0 := (unhide R0).c0
    have a1 := (unhide R0).c1
    have af := (unhide R0).fz
    have b0 := (unhide R1).c0
    have b1 := (unhide R1).c1
    have bf := (unhide R1).fz
    have l0 := (unhide LO).c0
    have l1 := (unhide LO).c1
    have m0 := (unhide HI).c0
    have m1 := (unhide HI).c1
    have n1 : w2.heap.size ≠ w.heap.size := by omega
    have n2 : w2.heap.size ≠ w.heap.size + 1 := by omega
    have n3 : w2.heap.size + 1 ≠ w.heap.size := by omega
    have n4 : w2.heap.size + 1 ≠ w.heap.size + 1 := by omega
    have G0 := hide (bel_set (v := .int .i64 v.2) (i := 1) (bel_set (v := .int .i64 v.1) (i := 0) (bel_set (v := .int .i64 u.2) (i := 1) (bel_set (v := .int .i64 u.1) (i := 0) (unhide HB).drew (Nat.le_refl w.heap.size) (by simp; omega)) (Nat.le_refl _) (by simp; omega)) (show w.heap.size ≤ w.heap.size + 1 by omega) (by simp; omega)) (show w.heap.size ≤ w.heap.size + 1 by omega) (by simp; omega))
    clear R0 R1 LO HI HB
    go_region
    go_wp2_with fail
    refine bodyPost_ret (v := .tuple #[.agg #[.int .i64 u.1, .int .i64 u.2], .agg #[.int .i64 v.1, .int .i64 v.2], .bool true]) (by simp [results, Try.results34, go_sem, a0, a1, b0, b1]) rfl ?_
    exact ⟨rfl, unhide G0⟩
theorem lo_bd {l : List (Int × Int)} (h : ∀ p ∈ l, gPt p = true) (h0 : 0 < l.length) : ∀ k, k ≤ l.length → (-1000 ≤ (loS l k).1 ∧ (loS l k).1 ≤ 1000) ∧ (-1000 ≤ (loS l k).2 ∧ (loS l k).2 ≤ 1000)
  | 0, _ => by
    have k := h (l.getD 0 (0, 0)) (by rw [getD_gt h0]; exact List.getElem_mem _)
    simp [gPt, inR] at k
    simp [loS]
    omega
  | k + 1, hk => by
    have ih := lo_bd h h0 k (by omega)
    have g := h (l.getD k (0, 0)) (by rw [getD_gt (by omega)]; exact List.getElem_mem _)
    simp only [gPt, inR, Bool.and_eq_true, decide_eq_true_eq] at g
    unfold loS
    dsimp only
    omega
theorem hi_bd {l : List (Int × Int)} (h : ∀ p ∈ l, gPt p = true) (h0 : 0 < l.length) : ∀ k, k ≤ l.length → (-1000 ≤ (hiS l k).1 ∧ (hiS l k).1 ≤ 1000) ∧ (-1000 ≤ (hiS l k).2 ∧ (hiS l k).2 ≤ 1000)
  | 0, _ => by
    have k := h (l.getD 0 (0, 0)) (by rw [getD_gt h0]; exact List.getElem_mem _)
    simp [gPt, inR] at k
    simp [hiS]
    omega
  | k + 1, hk => by
    have ih := hi_bd h h0 k (by omega)
    have g := h (l.getD k (0, 0)) (by rw [getD_gt (by omega)]; exact List.getElem_mem _)
    simp only [gPt, inR, Bool.and_eq_true, decide_eq_true_eq] at g
    unfold hiS
    dsimp only
    omega
/-- What a point of the grid counts. -/
def ptT (l : List (Int × Int)) (p : Int × Int) : Int := if onK l p l.length then 0 else wiS l p l.length
def colS (l : List (Int × Int)) (x y0 : Int) : Nat → Int
  | 0 => 0
  | k + 1 => colS l x y0 k + ptT l (x, y0 + k)
def gridS (l : List (Int × Int)) (x0 y0 : Int) (m : Nat) : Nat → Int
  | 0 => 0
  | k + 1 => gridS l x0 y0 m k + colS l (x0 + k) y0 m
theorem ptT_bd (l : List (Int × Int)) (p : Int × Int) : -(l.length : Int) ≤ ptT l p ∧ ptT l p ≤ l.length := by
  unfold ptT
  have := wiS_bd l p l.length
  split <;> omega
theorem colS_bd (l : List (Int × Int)) (x y0 : Int) (h : l.length ≤ 12) : ∀ k : Nat, -(12 * (k : Int)) ≤ colS l x y0 k ∧ colS l x y0 k ≤ 12 * k
  | 0 => by simp [colS]
  | k + 1 => by have := colS_bd l x y0 h k; have := ptT_bd l (x, y0 + k); unfold colS; omega
theorem gridS_bd (l : List (Int × Int)) (x0 y0 : Int) (m : Nat) (h : l.length ≤ 12) (hm : m ≤ 2001) : ∀ k : Nat, -(24012 * (k : Int)) ≤ gridS l x0 y0 m k ∧ gridS l x0 y0 m k ≤ 24012 * k
  | 0 => by simp [gridS]
  | k + 1 => by have := gridS_bd l x0 y0 m h hm k; have := colS_bd l (x0 + k) y0 h m; unfold gridS; omega
def bigB (l : List (Int × Int)) : Bool := decide (400 < ((hiS l l.length).1 - (loS l l.length).1 + 1) * ((hiS l l.length).2 - (loS l l.length).2 + 1))
def wsB (l : List (Int × Int)) : Bool := wayB l && !(bigB l)
def wsV (l : List (Int × Int)) : Int := if wsB l then gridS l (loS l l.length).1 (loS l l.length).2 ((hiS l l.length).2 - (loS l l.length).2 + 1).toNat ((hiS l l.length).1 - (loS l l.length).1 + 1).toNat else 0
theorem way_good9 {l : List (Int × Int)} (h : wayB l = true) : ∀ p ∈ l, gPt p = true := by
  unfold wayB at h
  exact List.all_eq_true.1 ((Bool.and_eq_true _ _).mp h).2
set_option maxHeartbeats 16000000 in
theorem WindingSumS (a : Option Addr) (n c : Nat) (l : List (Int × Int)) (w : World) (h : ArP w a n c l) (h1 : n ≤ 1048576) :
    Calls Try.prog 32 #[.slice a n c] w fun e w' => e = .returned (.tuple #[.int .i64 (wsV l), .bool (wsB l)]) ∧ Below w.heap.size w w' := by
  have hn := h.len
  have C1 := hide (fun w (k : SlP w a l) => wayS a n c l w k hn (by unfold maxLen; omega))
  have HS := hide h.sl
  clear h
  cases hg : wayB l
  · have EB : wsB l = false := by unfold wsB; rw [hg]; rfl
    have EV : wsV l = 0 := by unfold wsV; rw [EB]; rfl
    rw [EV, EB]
    rw [hg] at C1
    clear hg EV EB
    go_enter Try.func32, Try.ntmps32
    go_wp2_with fail
    refine (unhide C1 _ (unhide HS)).mono ?_
    rintro e w1 ⟨rfl, hb⟩
    have HB := hide hb
    replace HS := hide ((unhide HS).later hb)
    clear hb
    go_wp2_with fail
    go_ret2
    exact ⟨rfl, unhide HB⟩
  · have wp := way_parts hg
    have ln := wp.1
    rw [hn] at ln
    have gd := way_good9 hg
    have bl := lo_bd gd (by omega) l.length (Nat.le_refl _)
    have bh := hi_bd gd (by omega) l.length (Nat.le_refl _)
    have C2 := hide (fun w (k : SlP w a l) => boxS9 a n c l w k hn (by omega) (by omega))
    have EB : wsB l = !(bigB l) := by unfold wsB; rw [hg]; rfl
    have EBB : bigB l = decide (400 < ((hiS l l.length).1 - (loS l l.length).1 + 1) * ((hiS l l.length).2 - (loS l l.length).2 + 1)) := rfl
    have EVV : wsV l = if wsB l then gridS l (loS l l.length).1 (loS l l.length).2 ((hiS l l.length).2 - (loS l l.length).2 + 1).toNat ((hiS l l.length).1 - (loS l l.length).1 + 1).toNat else 0 := rfl
    rw [hg] at C1
    clear hg gd
    generalize loS l l.length = u at *
    generalize hiS l l.length = v at *
    have m1' := @mul_bd (v.1 - u.1 + 1) (v.2 - u.2 + 1) (by omega) (by omega) (by omega) (by omega)
    have w1' : IntKind.i64.wrap (v.1 - u.1) = v.1 - u.1 := by rw [IntKind.wrap_i64]; omega
    have w2' : IntKind.i64.wrap (v.1 - u.1 + 1) = v.1 - u.1 + 1 := by rw [IntKind.wrap_i64]; omega
    have w3' : IntKind.i64.wrap (v.2 - u.2) = v.2 - u.2 := by rw [IntKind.wrap_i64]; omega
    have w4' : IntKind.i64.wrap (v.2 - u.2 + 1) = v.2 - u.2 + 1 := by rw [IntKind.wrap_i64]; omega
    have w5' : IntKind.i64.wrap ((v.1 - u.1 + 1) * (v.2 - u.2 + 1)) = (v.1 - u.1 + 1) * (v.2 - u.2 + 1) := by rw [IntKind.wrap_i64]; omega
    clear m1'
    cases hbg : bigB l
    · rw [hbg] at EB EBB
      have EV : wsV l = gridS l u.1 u.2 (v.2 - u.2 + 1).toNat (v.1 - u.1 + 1).toNat := by rw [EVV, EB]; rfl
      have dd : decide (400 < (v.1 - u.1 + 1) * (v.2 - u.2 + 1)) = false := EBB.symm
      rw [EV, EB]
      have HN := hide hn
      have WP := hide wp.2
      clear EV EVV EB EBB hbg wp hn
      obtain ⟨M, hM⟩ : ∃ M : Nat, M = (v.2 - u.2 + 1).toNat := ⟨_, rfl⟩
      obtain ⟨K, hK⟩ : ∃ K : Nat, K = (v.1 - u.1 + 1).toNat := ⟨_, rfl⟩
      rw [← hM, ← hK]
      go_enter Try.func32, Try.ntmps32
      go_wp2_with fail
      refine (unhide C1 _ (unhide HS)).mono ?_
      rintro e w1 ⟨rfl, hb⟩
      have HB := hide hb
      replace HS := hide ((unhide HS).later hb)
      clear hb
      go_wp2_with fail
      refine (unhide C2 _ (unhide HS)).mono ?_
      rintro e w2 ⟨rfl, hb⟩
      have al : Below w2.heap.size w2 ((w2.alloc (.cells #[.int .i64 u.1, .int .i64 u.2] 25)).alloc (.cells #[.int .i64 v.1, .int .i64 v.2] 25)) := ((Below.refl _ _).alloc (Nat.le_refl _) _).alloc (by simp) _
      have bel := below_on hb al
      replace HB := hide (below_on (unhide HB) bel)
      replace HS := hide ((unhide HS).later bel)
      have z1 : (w2.alloc (.cells #[.int .i64 u.1, .int .i64 u.2] 25)).heap.size = w2.heap.size + 1 := by simp
      have LO : Hid (BxP ((w2.alloc (.cells #[.int .i64 u.1, .int .i64 u.2] 25)).alloc (.cells #[.int .i64 v.1, .int .i64 v.2] 25)) w2.heap.size u.1 u.2) := hide (BxP.new.later ((Below.refl _ _).alloc (Nat.le_refl _) _))
      have HI : Hid (BxP ((w2.alloc (.cells #[.int .i64 u.1, .int .i64 u.2] 25)).alloc (.cells #[.int .i64 v.1, .int .i64 v.2] 25)) (w2.heap.size + 1) v.1 v.2) := hide (z1 ▸ BxP.new)
      clear hb bel al z1
      go_upto_region 4 with fail
      generalize ((w2.alloc (.cells #[.int .i64 u.1, .int .i64 u.2] 25)).alloc (.cells #[.int .i64 v.1, .int .i64 v.2] 25)) = w3 at *
      have l0 := (unhide LO).c0
      have l1 := (unhide LO).c1
      have m0 := (unhide HI).c0
      have m1 := (unhide HI).c1
      go_wp2
      clear l0 l1 m0 m1 dd w1' w2' w3' w4' w5'
      go_loopw [6, 7] (fun sv xv wr => ∃ i : Nat, i ≤ K ∧ xv = .int .i64 (u.1 + i) ∧ sv = .int .i64 (gridS l u.1 u.2 M i) ∧ Hid (Below w3.heap.size w3 wr)) (fun _ xv _ => (v.1 + 1 - intOf xv).toNat)
      case atStart => exact ⟨0, Nat.zero_le _, by simp, rfl, hide (Below.refl _ _)⟩
      case round =>
        obtain ⟨i, hi, rfl, rfl, HR⟩ := hrel
        have m0 := ((unhide HI).later (unhide HR)).c0
        have m1 := ((unhide HI).later (unhide HR)).c1
        have l0 := ((unhide LO).later (unhide HR)).c0
        have l1 := ((unhide LO).later (unhide HR)).c1
        by_cases hx : u.1 + (i : Int) ≤ v.1
        · have dx : decide (u.1 + (i : Int) ≤ v.1) = true := decide_eq_true hx
          have wx : IntKind.i64.wrap (u.1 + (i : Int) + 1) = u.1 + (i : Int) + 1 := by rw [IntKind.wrap_i64]; omega
          obtain ⟨wo, hwo⟩ : ∃ x, x = wr := ⟨_, rfl⟩
          subst hwo
          go_wp2
          clear m0 m1 l0 l1
          go_loopw [6, 8] (fun sv yv wr => ∃ j : Nat, j ≤ M ∧ yv = .int .i64 (u.2 + j) ∧ sv = .int .i64 (gridS l u.1 u.2 M i + colS l (u.1 + i) u.2 j) ∧ Hid (Below w3.heap.size w3 wr)) (fun _ yv _ => (v.2 + 1 - intOf yv).toNat)
          case atStart => exact ⟨0, Nat.zero_le _, by simp, by simp [colS], HR⟩
          case round =>
            clear HR
            obtain ⟨j, hj, rfl, rfl, HR⟩ := hrel
            have m0 := ((unhide HI).later (unhide HR)).c0
            have m1 := ((unhide HI).later (unhide HR)).c1
            by_cases hy : u.2 + (j : Int) ≤ v.2
            · have dy : decide (u.2 + (j : Int) ≤ v.2) = true := decide_eq_true hy
              have wy : IntKind.i64.wrap (u.2 + (j : Int) + 1) = u.2 + (j : Int) + 1 := by rw [IntKind.wrap_i64]; omega
              have g1 := gridS_bd l u.1 u.2 M (by rw [unhide HN]; omega) (by omega) i
              have g2 := colS_bd l (u.1 + i) u.2 (by rw [unhide HN]; omega) j
              have g3 := ptT_bd l (u.1 + i, u.2 + j)
              rw [unhide HN] at g3
              have ES : colS l (u.1 + i) u.2 (j + 1) = colS l (u.1 + i) u.2 j + ptT l (u.1 + i, u.2 + j) := rfl
              have HES := hide ES
              have np : Near (u.1 + (i : Int), u.2 + (j : Int)) := ⟨by show _ ≤ u.1 + (i : Int); omega, by show u.1 + (i : Int) ≤ _; omega, by show _ ≤ u.2 + (j : Int); omega, by show u.2 + (j : Int) ≤ _; omega⟩
              have CO := hide (fun w (k : SlP w a l) => onS9 a n c l (u.1 + (i : Int), u.2 + (j : Int)) w k (unhide HN) (by omega) (by omega) (unhide WP) np)
              have CW := hide (fun w (k : SlP w a l) => windS9 a n c l (u.1 + (i : Int), u.2 + (j : Int)) w k (unhide HN) (by omega) (by omega) (unhide WP) np)
              have ET : Hid (ptT l (u.1 + (i : Int), u.2 + (j : Int)) = if onK l (u.1 + (i : Int), u.2 + (j : Int)) l.length then 0 else wiS l (u.1 + (i : Int), u.2 + (j : Int)) l.length) := hide rfl
              generalize colS l (u.1 + i) u.2 j = s1 at *
              generalize gridS l u.1 u.2 M i = s0 at *
              obtain ⟨x, hxe⟩ : ∃ x, u.1 + (i : Int) = x := ⟨_, rfl⟩
              obtain ⟨y, hye⟩ : ∃ y, u.2 + (j : Int) = y := ⟨_, rfl⟩
              rw [hxe, hye] at CO CW ET g3 HES
              generalize wiS l (x, y) l.length = wv at *
              have HXY := hide (And.intro hxe hye)
              have HS3 := hide ((unhide HS).later (unhide HR))
              have al : Below wr.heap.size wr (wr.alloc (.cells #[.int .i64 x, .int .i64 y] 25)) := (Below.refl _ _).alloc (Nat.le_refl _) _
              have KX : Hid (BxP (wr.alloc (.cells #[.int .i64 x, .int .i64 y] 25)) wr.heap.size x y) := hide BxP.new
              replace HS3 := hide ((unhide HS3).later al)
              have HR2 := hide (below_on (unhide HR) al)
              have mm0 := cell_later al m0
              have mm1 := cell_later al m1
              clear al ES np
              rw [hxe, hye]
              go_upto_region 14 with fail
              rw [hxe] at dx wx
              rw [hye] at dy wy
              generalize wr.alloc (.cells #[.int .i64 x, .int .i64 y] 25) = w5 at *
              have k0 := (unhide KX).c0
              have k1 := (unhide KX).c1
              cases hon : onK l (x, y) l.length
              · rw [hon] at CO ET
                have PV : Hid (ptT l (x, y) = wv) := hide (by rw [unhide ET]; rfl)
                have wa : IntKind.i64.wrap (s0 + s1 + wv) = s0 + s1 + wv := by have := unhide PV; rw [IntKind.wrap_i64]; omega
                clear hon
                go_wp2_with fail
                refine (unhide CO _ (unhide HS3)).mono ?_
                rintro e w6 ⟨rfl, hb⟩
                replace HR2 := hide (below_on (unhide HR2) hb)
                replace HS3 := hide ((unhide HS3).later hb)
                replace k0 := cell_later hb k0
                replace k1 := cell_later hb k1
                clear hb
                go_wp2_with fail
                refine (unhide CW _ (unhide HS3)).mono ?_
                rintro e w7 ⟨rfl, hb⟩
                replace HR2 := hide (below_on (unhide HR2) hb)
                clear hb k0 k1
                go_wp2
                go_roundw
                case rel => exact ⟨j + 1, by omega, by rw [show u.2 + ((j + 1 : Nat) : Int) = y + 1 by omega], by rw [show colS l x u.2 (j + 1) = s1 + wv by rw [unhide HES, unhide PV], Int.add_assoc], HR2⟩
                case measure => simp [intOf]; omega
              · rw [hon] at CO ET
                have PV : Hid (ptT l (x, y) = 0) := hide (by rw [unhide ET]; rfl)
                clear hon
                go_wp2_with fail
                refine (unhide CO _ (unhide HS3)).mono ?_
                rintro e w6 ⟨rfl, hb⟩
                replace HR2 := hide (below_on (unhide HR2) hb)
                clear hb k0 k1
                go_wp2
                go_roundw
                case rel => exact ⟨j + 1, by omega, by rw [show u.2 + ((j + 1 : Nat) : Int) = y + 1 by omega], by rw [show colS l x u.2 (j + 1) = s1 by rw [unhide HES, unhide PV, Int.add_zero]], HR2⟩
                case measure => simp [intOf]; omega
            · have dy : decide (u.2 + (j : Int) ≤ v.2) = false := decide_eq_false hy
              have jm : j = M := by omega
              have EG : Hid (gridS l u.1 u.2 M (i + 1) = gridS l u.1 u.2 M i + colS l (u.1 + i) u.2 j) := hide (by rw [jm]; rfl)
              generalize colS l (u.1 + i) u.2 j = s1 at *
              generalize gridS l u.1 u.2 M i = s0 at *
              go_wp2
              go_roundw
              case rel => exact ⟨i + 1, by omega, by congr 1; omega, by rw [unhide EG], HR⟩
              case measure => simp [intOf]; omega
        · have dx : decide (u.1 + (i : Int) ≤ v.1) = false := decide_eq_false hx
          have ik : i = K := by omega
          have EG : Hid (gridS l u.1 u.2 M i = gridS l u.1 u.2 M K) := hide (by rw [ik])
          have F0 := hide (below_on (unhide HB) (unhide HR))
          clear ik hM hK
          go_wp2
          go_ret2
          exact ⟨by rw [← unhide EG]; rfl, unhide F0⟩
    · rw [hbg] at EB EBB
      have EV : wsV l = 0 := by rw [EVV, EB]; rfl
      have dd : decide (400 < (v.1 - u.1 + 1) * (v.2 - u.2 + 1)) = true := EBB.symm
      rw [EV, EB]
      clear EV EVV EB EBB hbg wp hn
      go_enter Try.func32, Try.ntmps32
      go_wp2_with fail
      refine (unhide C1 _ (unhide HS)).mono ?_
      rintro e w1 ⟨rfl, hb⟩
      have HB := hide hb
      replace HS := hide ((unhide HS).later hb)
      clear hb
      go_wp2_with fail
      refine (unhide C2 _ (unhide HS)).mono ?_
      rintro e w2 ⟨rfl, hb⟩
      have al : Below w2.heap.size w2 ((w2.alloc (.cells #[.int .i64 u.1, .int .i64 u.2] 25)).alloc (.cells #[.int .i64 v.1, .int .i64 v.2] 25)) := ((Below.refl _ _).alloc (Nat.le_refl _) _).alloc (by simp) _
      have bel := below_on hb al
      replace HB := hide (below_on (unhide HB) bel)
      replace HS := hide ((unhide HS).later bel)
      have z1 : (w2.alloc (.cells #[.int .i64 u.1, .int .i64 u.2] 25)).heap.size = w2.heap.size + 1 := by simp
      have LO : Hid (BxP ((w2.alloc (.cells #[.int .i64 u.1, .int .i64 u.2] 25)).alloc (.cells #[.int .i64 v.1, .int .i64 v.2] 25)) w2.heap.size u.1 u.2) := hide (BxP.new.later ((Below.refl _ _).alloc (Nat.le_refl _) _))
      have HI : Hid (BxP ((w2.alloc (.cells #[.int .i64 u.1, .int .i64 u.2] 25)).alloc (.cells #[.int .i64 v.1, .int .i64 v.2] 25)) (w2.heap.size + 1) v.1 v.2) := hide (z1 ▸ BxP.new)
      clear hb bel al z1
      go_upto_region 4 with fail
      generalize ((w2.alloc (.cells #[.int .i64 u.1, .int .i64 u.2] 25)).alloc (.cells #[.int .i64 v.1, .int .i64 v.2] 25)) = w3 at *
      have l0 := (unhide LO).c0
      have l1 := (unhide LO).c1
      have m0 := (unhide HI).c0
      have m1 := (unhide HI).c1
      go_wp2_with fail
      go_ret2
      exact ⟨rfl, unhide HB⟩
end Go.Proofs.Ytgphhlhpoffabaa

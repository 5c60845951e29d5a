/- Chapter 10 of the specification: less, the widest, points in order. No condition beyond those typed. Written by mksp10.py. -/
import Derived.Test.YtgoiodhofbkkdaaSrt10
import Derived.Test.YtgoiodhofbkkdaaSp8T
import Derived.Test.YtgoiodhofbkkdaaLaw2
namespace Go.Proofs.Ytgoiodhofbkkdaa
open Go.RowKit
set_option linter.unusedVariables false
set_option maxRecDepth 100000
set_option linter.unusedSimpArgs false

set_option maxHeartbeats 2000000 in
theorem lessS (a b : Int × Int) (w : World) : Calls Try.prog 76 #[.agg #[.int .i64 a.1, .int .i64 a.2], .agg #[.int .i64 b.1, .int .i64 b.2]] w fun e w' => e = .returned (.bool (ltP a b)) ∧ Below w.heap.size w w' := by
  have B0 : Hid (Below w.heap.size w ((w.alloc (.cells #[.int .i64 a.1, .int .i64 a.2] 31)).alloc (.cells #[.int .i64 b.1, .int .i64 b.2] 31))) := hide (((Below.refl _ _).alloc (Nat.le_refl _) _).alloc (by simp) _)
  unfold ltP
  cases d1 : decide (a.1 < b.1)
  · by_cases e1 : a.1 = b.1
    · have q1 : (a.1 == b.1) = true := by simp [e1]
      rw [decide_eq_true e1]
      have E1 := hide e1
      clear e1
      cases d2 : decide (a.2 < b.2)
      · go_enter Try.func76, Try.ntmps76
        go_wp2
        go_ret
        exact ⟨rfl, unhide B0⟩
      · go_enter Try.func76, Try.ntmps76
        go_wp2
        go_ret
        exact ⟨rfl, unhide B0⟩
    · have q1 : (a.1 == b.1) = false := by simp [e1]
      rw [decide_eq_false e1]
      clear e1
      go_enter Try.func76, Try.ntmps76
      go_wp2
      go_ret
      exact ⟨rfl, unhide B0⟩
  · go_enter Try.func76, Try.ntmps76
    go_wp2
    go_ret
    exact ⟨rfl, unhide B0⟩
def leB (a b : Int × Int) : Bool := gPt a && gPt b
def leV (a b : Int × Int) : Bool := if leB a b then ltP a b else false
set_option maxHeartbeats 2000000 in
theorem LessPtS (a b : Int × Int) (w : World) : Calls Try.prog 36 #[.agg #[.int .i64 a.1, .int .i64 a.2], .agg #[.int .i64 b.1, .int .i64 b.2]] w fun e w' => e = .returned (.tuple #[.bool (leV a b), .bool (leB a b)]) ∧ Below w.heap.size w w' := by
  have C1 := hide (fun w => goodPS a.1 a.2 w)
  have C2 := hide (fun w => goodPS b.1 b.2 w)
  have C3 := hide (fun w => lessS a b w)
  change Hid (∀ w, Calls _ _ _ w fun e w' => e = .returned (.bool (gPt a)) ∧ _) at C1
  change Hid (∀ w, Calls _ _ _ w fun e w' => e = .returned (.bool (gPt b)) ∧ _) at C2
  unfold leV leB
  cases h1 : gPt a
  · rw [h1] at C1
    clear h1
    have B0 := hide (show Below w.heap.size w ((w.alloc (.cells #[.int .i64 a.1, .int .i64 a.2] 31)).alloc (.cells #[.int .i64 b.1, .int .i64 b.2] 31)) from (((Below.refl _ _).alloc (by simp) _).alloc (by simp) _))
    go_enter Try.func36, Try.ntmps36
    go_wp2_with fail
    refine (unhide C1 _).mono ?_
    rintro e w1 ⟨rfl, hb⟩
    have HB := hide (below_on (unhide B0) hb)
    clear hb
    go_wp2_with fail
    go_ret2
    exact ⟨rfl, unhide HB⟩
  · rw [h1] at C1
    cases h2 : gPt b
    · rw [h2] at C2
      clear h1 h2
      have B0 := hide (show Below w.heap.size w ((w.alloc (.cells #[.int .i64 a.1, .int .i64 a.2] 31)).alloc (.cells #[.int .i64 b.1, .int .i64 b.2] 31)) from (((Below.refl _ _).alloc (by simp) _).alloc (by simp) _))
      go_enter Try.func36, Try.ntmps36
      go_wp2_with fail
      refine (unhide C1 _).mono ?_
      rintro e w1 ⟨rfl, hb⟩
      have k0_0 : w1.cell? ⟨w.heap.size, 0, none⟩ = some (.int .i64 a.1) := cell_later hb (by simp [go_sem])
      have k0_1 : w1.cell? ⟨w.heap.size, 1, none⟩ = some (.int .i64 a.2) := cell_later hb (by simp [go_sem])
      have k1_0 : w1.cell? ⟨w.heap.size + 1, 0, none⟩ = some (.int .i64 b.1) := cell_later hb (by simp [go_sem])
      have k1_1 : w1.cell? ⟨w.heap.size + 1, 1, none⟩ = some (.int .i64 b.2) := cell_later hb (by simp [go_sem])
      have HB := hide (below_on (unhide B0) hb)
      clear hb
      go_wp2_with fail
      refine (unhide C2 _).mono ?_
      rintro e w2 ⟨rfl, hb⟩
      clear k0_0 k0_1 k1_0 k1_1
      replace HB := hide (below_on (unhide HB) hb)
      clear hb
      go_wp2_with fail
      go_ret2
      exact ⟨rfl, unhide HB⟩
    · rw [h2] at C2
      clear h1 h2
      simp only [Bool.and_self, if_true]
      generalize ltP a b = r at *
      have B0 := hide (show Below w.heap.size w ((w.alloc (.cells #[.int .i64 a.1, .int .i64 a.2] 31)).alloc (.cells #[.int .i64 b.1, .int .i64 b.2] 31)) from (((Below.refl _ _).alloc (by simp) _).alloc (by simp) _))
      go_enter Try.func36, Try.ntmps36
      go_wp2_with fail
      refine (unhide C1 _).mono ?_
      rintro e w1 ⟨rfl, hb⟩
      have k0_0 : w1.cell? ⟨w.heap.size, 0, none⟩ = some (.int .i64 a.1) := cell_later hb (by simp [go_sem])
      have k0_1 : w1.cell? ⟨w.heap.size, 1, none⟩ = some (.int .i64 a.2) := cell_later hb (by simp [go_sem])
      have k1_0 : w1.cell? ⟨w.heap.size + 1, 0, none⟩ = some (.int .i64 b.1) := cell_later hb (by simp [go_sem])
      have k1_1 : w1.cell? ⟨w.heap.size + 1, 1, none⟩ = some (.int .i64 b.2) := cell_later hb (by simp [go_sem])
      have HB := hide (below_on (unhide B0) hb)
      clear hb
      go_wp2_with fail
      refine (unhide C2 _).mono ?_
      rintro e w2 ⟨rfl, hb⟩
      replace k0_0 := cell_later hb k0_0
      replace k0_1 := cell_later hb k0_1
      replace k1_0 := cell_later hb k1_0
      replace k1_1 := cell_later hb k1_1
      replace HB := hide (below_on (unhide HB) hb)
      clear hb
      go_wp2_with fail
      refine (unhide C3 _).mono ?_
      rintro e w3 ⟨rfl, hb⟩
      clear k0_0 k0_1 k1_0 k1_1
      replace HB := hide (below_on (unhide HB) hb)
      clear hb
      go_wp2_with fail
      go_ret2
      exact ⟨rfl, unhide HB⟩
def cloB (l : List (Int × Int)) : Bool := inR l.length 1 16 && l.all gPt
theorem clo_parts {l : List (Int × Int)} (h : cloB l = true) : (1 ≤ l.length ∧ l.length ≤ 16) ∧ ∀ p ∈ l, gPt p = true := by
  unfold cloB at h
  have h2 := (Bool.and_eq_true _ _).mp h
  have h3 := inR_le h2.1
  exact ⟨by omega, List.all_eq_true.1 h2.2⟩
theorem cloudS (a : Option Addr) (n c : Nat) (l : List (Int × Int)) (w : World) (h : SlP w a l) (hn : l.length = n) (hm : n ≤ maxLen) :
    Calls Try.prog 46 #[.slice a n c] w fun e w' => e = .returned (.bool (cloB l)) ∧ Below w.heap.size w w' := by
  have C1 := hide (fun w => inS8 n 1 16 w)
  have C2 := hide (fun w (k : SlP w a l) => ptsS a n c l w k hn hm)
  have HS := hide h
  unfold cloB
  rw [hn]
  clear h hn hm
  cases h1 : inR (n : Int) 1 16
  · rw [h1] at C1
    go_enter Try.func46, Try.ntmps46
    go_wp2_with fail
    refine (unhide C1 _).mono ?_
    rintro e w1 ⟨rfl, rfl⟩
    go_wp2_with fail
    go_ret
    exact ⟨rfl, Below.refl _ _⟩
  · rw [h1] at C1
    generalize l.all gPt = r at *
    go_enter Try.func46, Try.ntmps46
    go_wp2_with fail
    refine (unhide C1 _).mono ?_
    rintro e w1 ⟨rfl, rfl⟩
    go_wp2_with fail
    refine (unhide C2 _ (unhide HS)).mono ?_
    rintro e w2 ⟨rfl, hb⟩
    go_wp2_with fail
    go_ret
    exact ⟨by cases r <;> rfl, hb⟩
def sqP (a b : Int × Int) : Int := (a.1 - b.1) * (a.1 - b.1) + (a.2 - b.2) * (a.2 - b.2)
def wI (l : List (Int × Int)) (a : Int × Int) (m : Int) : Nat → Int
  | 0 => m
  | k + 1 => max (wI l a m k) (sqP a (l.getD k (0, 0)))
def wO (l : List (Int × Int)) : Nat → Int
  | 0 => 0
  | k + 1 => wI l (l.getD k (0, 0)) (wO l k) l.length
def wdV (l : List (Int × Int)) : Int := if cloB l then wO l l.length else 0
theorem getD_good {l : List (Int × Int)} (h : ∀ p ∈ l, gPt p = true) {i : Nat} (hi : i < l.length) : gPt (l.getD i (0, 0)) = true := by rw [getD_gt hi]; exact h _ (List.getElem_mem _)
set_option maxHeartbeats 8000000 in
theorem WidestInS (a : Option Addr) (n c : Nat) (l : List (Int × Int)) (w : World) (h : ArP w a n c l) (h1 : n ≤ 1048576) :
    Calls Try.prog 24 #[.slice a n c] w fun e w' => e = .returned (.tuple #[.int .i64 (wdV l), .bool (cloB l)]) ∧ Below w.heap.size w w' := by
  have hn := h.len
  have C1 := hide (fun w (k : SlP w a l) => cloudS a n c l w k hn (by unfold maxLen; omega))
  have HS := hide h.sl
  clear h
  cases hg : cloB l
  · have EV : wdV l = 0 := by unfold wdV; rw [hg]; rfl
    rw [EV]
    rw [hg] at C1
    clear hg EV
    go_enter Try.func24, Try.ntmps24
    go_wp2_with fail
    refine (unhide C1 _ (unhide HS)).mono ?_
    rintro e w1 ⟨rfl, hb⟩
    go_wp2_with fail
    go_ret2
    exact ⟨rfl, hb⟩
  · have EV : wdV l = wO l l.length := by unfold wdV; rw [hg]; rfl
    have cp := clo_parts hg
    have ln := cp.1
    rw [hn] at ln
    rw [EV]
    rw [hg] at C1
    have HN := hide hn
    have HG := hide cp.2
    clear hg EV cp hn
    go_enter Try.func24, Try.ntmps24
    go_wp2_with fail
    refine (unhide C1 _ (unhide HS)).mono ?_
    rintro e w1 ⟨rfl, hb⟩
    have HB := hide hb
    replace HS := hide ((unhide HS).later hb)
    clear hb
    rcases (unhide HS) with e | ⟨b, off, rfl, hbb, hc⟩
    · exact absurd (unhide HN) (by rw [e]; simp; omega)
    have HC := hide hc
    clear hc
    go_wp2
    go_loopw [4, 15] (fun mv iv wr => ∃ i : Nat, i ≤ n ∧ iv = .int .i64 i ∧ mv = .int .i64 (wO l i) ∧ Hid (Below w1.heap.size w1 wr)) (fun _ iv _ => n - (intOf iv).toNat)
    case atStart => exact ⟨0, Nat.zero_le _, rfl, rfl, hide (Below.refl _ _)⟩
    case round =>
      obtain ⟨i, hi, rfl, rfl, HR⟩ := hrel
      by_cases hlt : i < n
      · have hlt' : (i : Int) < (n : Int) := by omega
        obtain ⟨wo, hwo⟩ : ∃ x, x = wr := ⟨_, rfl⟩
        subst hwo
        have e0 := unhide HC i (by rw [unhide HN]; exact hlt)
        rw [← getD_gt (by rw [unhide HN]; exact hlt)] at e0
        have gp := getD_good (unhide HG) (i := i) (by rw [unhide HN]; exact hlt)
        have ES : Hid (wO l (i + 1) = wI l (l.getD i (0, 0)) (wO l i) n) := hide (by show wI l _ _ l.length = _; rw [unhide HN])
        generalize wO l i = m0 at *
        generalize l.getD i (0, 0) = p at *
        have E0 : wo.cell? ⟨b, off + i * 2, none⟩ = some (.int .i64 p.1) := ((unhide HR).cell (p := ⟨b, off + i * 2, none⟩) hbb).trans e0.1
        have E1 : wo.cell? ⟨b, off + i * 2 + 1, none⟩ = some (.int .i64 p.2) := ((unhide HR).cell (p := ⟨b, off + i * 2 + 1, none⟩) hbb).trans e0.2
        have al : Below wo.heap.size wo (wo.alloc (.cells #[.int .i64 p.1, .int .i64 p.2] 31)) := (Below.refl _ _).alloc (Nat.le_refl _) _
        have k0 : (wo.alloc (.cells #[.int .i64 p.1, .int .i64 p.2] 31)).cell? ⟨wo.heap.size, 0, none⟩ = some (.int .i64 p.1) := by simp [go_sem]
        have k1 : (wo.alloc (.cells #[.int .i64 p.1, .int .i64 p.2] 31)).cell? ⟨wo.heap.size, 1, none⟩ = some (.int .i64 p.2) := by simp [go_sem]
        have KA := hide (And.intro k0 k1)
        have HR1 := hide (below_on (unhide HR) al)
        have ltb : wo.heap.size < (wo.alloc (.cells #[.int .i64 p.1, .int .i64 p.2] 31)).heap.size := by simp
        clear e0 al k0 k1
        go_upto_region 7 with fail
        clear E0 E1 HR
        generalize wo.alloc (.cells #[.int .i64 p.1, .int .i64 p.2] 31) = w3 at *
        go_wp2
        go_loopw [4, 21] (fun mv jv wr => ∃ j : Nat, j ≤ n ∧ jv = .int .i64 j ∧ mv = .int .i64 (wI l p m0 j) ∧ Hid (Below w3.heap.size w3 wr)) (fun _ jv _ => n - (intOf jv).toNat)
        case atStart => exact ⟨0, Nat.zero_le _, rfl, rfl, hide (Below.refl _ _)⟩
        case round =>
          obtain ⟨j, hj, rfl, rfl, HR⟩ := hrel
          by_cases hjl : j < n
          · have hjl' : (j : Int) < (n : Int) := by omega
            have HRR := hide (below_on (unhide HR1) (unhide HR))
            have e0 := unhide HC j (by rw [unhide HN]; exact hjl)
            rw [← getD_gt (by rw [unhide HN]; exact hjl)] at e0
            have gq := getD_good (unhide HG) (i := j) (by rw [unhide HN]; exact hjl)
            have EJ : Hid (wI l p m0 (j + 1) = max (wI l p m0 j) (sqP p (l.getD j (0, 0)))) := hide rfl
            generalize wI l p m0 j = m1 at *
            generalize l.getD j (0, 0) = q at *
            have E0 : wr.cell? ⟨b, off + j * 2, none⟩ = some (.int .i64 q.1) := ((unhide HRR).cell (p := ⟨b, off + j * 2, none⟩) hbb).trans e0.1
            have E1 : wr.cell? ⟨b, off + j * 2 + 1, none⟩ = some (.int .i64 q.2) := ((unhide HRR).cell (p := ⟨b, off + j * 2 + 1, none⟩) hbb).trans e0.2
            simp only [gPt, inR, Bool.and_eq_true, decide_eq_true_eq] at gp gq
            have m2 := @mul_bd (p.1 - q.1) (p.1 - q.1) (by omega) (by omega) (by omega) (by omega)
            have m3 := @mul_bd (p.2 - q.2) (p.2 - q.2) (by omega) (by omega) (by omega) (by omega)
            have v1 : IntKind.i64.wrap (p.1 - q.1) = p.1 - q.1 := by rw [IntKind.wrap_i64]; omega
            have v2 : IntKind.i64.wrap (p.2 - q.2) = p.2 - q.2 := by rw [IntKind.wrap_i64]; omega
            have v3 : IntKind.i64.wrap ((p.1 - q.1) * (p.1 - q.1)) = (p.1 - q.1) * (p.1 - q.1) := by rw [IntKind.wrap_i64]; omega
            have v4 : IntKind.i64.wrap ((p.2 - q.2) * (p.2 - q.2)) = (p.2 - q.2) * (p.2 - q.2) := by rw [IntKind.wrap_i64]; omega
            have v5 : IntKind.i64.wrap ((p.1 - q.1) * (p.1 - q.1) + (p.2 - q.2) * (p.2 - q.2)) = sqP p q := by rw [IntKind.wrap_i64]; unfold sqP; omega
            have k0 := (unhide HR).cell (p := ⟨wo.heap.size, 0, none⟩) ltb |>.trans (unhide KA).1
            have k1 := (unhide HR).cell (p := ⟨wo.heap.size, 1, none⟩) ltb |>.trans (unhide KA).2
            have ltc : wo.heap.size < wr.heap.size := World.block_lt_of_cell? _ _ k0
            have al : Below wr.heap.size wr (wr.alloc (.cells #[.int .i64 q.1, .int .i64 q.2] 31)) := (Below.refl _ _).alloc (Nat.le_refl _) _
            replace k0 := cell_later al k0
            replace k1 := cell_later al k1
            have n0 : (wr.alloc (.cells #[.int .i64 q.1, .int .i64 q.2] 31)).cell? ⟨wr.heap.size, 0, none⟩ = some (.int .i64 q.1) := by simp [go_sem]
            have n1 : (wr.alloc (.cells #[.int .i64 q.1, .int .i64 q.2] 31)).cell? ⟨wr.heap.size, 1, none⟩ = some (.int .i64 q.2) := by simp [go_sem]
            have HR2 := hide (below_on (unhide HR) al)
            clear e0 al m2 m3 gq
            go_upto_region 10 with fail
            clear E0 E1 HR HRR
            generalize wr.alloc (.cells #[.int .i64 q.1, .int .i64 q.2] 31) = w4 at *
            by_cases hgt : m1 < sqP p q
            · have dg : decide (m1 < sqP p q) = true := decide_eq_true hgt
              have EM : Hid (sqP p q = max m1 (sqP p q)) := hide (by omega)
              clear hgt
              generalize sqP p q = sv at *
              go_wp2
              go_roundw
              case rel => exact ⟨j + 1, by omega, by go_num, by rw [unhide EJ, ← unhide EM], HR2⟩
              case measure => simp [intOf]; omega
            · have dg : decide (m1 < sqP p q) = false := decide_eq_false hgt
              have EM : Hid (m1 = max m1 (sqP p q)) := hide (by omega)
              clear hgt
              generalize sqP p q = sv at *
              go_wp2
              go_roundw
              case rel => exact ⟨j + 1, by omega, by go_num, by rw [unhide EJ, ← unhide EM], HR2⟩
              case measure => simp [intOf]; omega
          · obtain rfl : j = n := by omega
            have HRR := hide (below_on (unhide HR1) (unhide HR))
            generalize wI l p m0 j = m1 at *
            go_wp2
            go_roundw
            case rel => exact ⟨i + 1, by omega, by go_num, by rw [unhide ES], HRR⟩
            case measure => simp [intOf]; omega
      · obtain rfl : i = n := by omega
        have EN : Hid (wO l i = wO l l.length) := hide (by rw [unhide HN])
        have F0 := hide (below_on (unhide HB) (unhide HR))
        go_wp2
        go_ret2
        exact ⟨by rw [← unhide EN]; rfl, unhide F0⟩
end Go.Proofs.Ytgoiodhofbkkdaa

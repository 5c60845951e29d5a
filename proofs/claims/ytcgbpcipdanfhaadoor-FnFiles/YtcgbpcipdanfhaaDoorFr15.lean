/- The row of runs: plain facts; l15From, manyIn, fill. No condition beyond those typed. Written by mkfr15.py. -/
import Derived.Test.YtcgbpcipdanfhaaDoorRu16
import Derived.Test.YtcgbpcipdanfhaaDoorIs11
import Derived.Lib.SliceRun
import Derived.Deep.Upon
import Derived.Lib.LazyBuf
import Derived.Maps.AppendAt
namespace Go.Proofs.YtcgbpcipdanfhaaDoor
open Go.RowKit
set_option linter.unusedVariables false
set_option maxRecDepth 100000
set_option linter.unusedSimpArgs false

/-- The row that has these runs. -/
def exN (l : List (Int × Int)) : List Int := l.flatMap (fun p => List.replicate p.2.toNat p.1)
theorem exN_snoc (l : List (Int × Int)) (p : Int × Int) : exN (l ++ [p]) = exN l ++ List.replicate p.2.toNat p.1 := by simp [exN]
theorem gR_facts {l : List (Int × Int)} (h : gRuns l = true) {i : Nat} (hi : i < l.length) : byo l[i].1 = false ∧ 1 ≤ l[i].2 ∧ l[i].2 ≤ 100 - sumM (l.take i) := by
  have k := gR_at h hi
  have e := okAt_eq (l := l) (i := i) (v := l[i].1) (m := l[i].2) (left := 100 - sumM (l.take i)) hi rfl rfl rfl (l.getD (i - 1) (0, 0)).1 (fun j hj e => by subst e; simp [List.getD, hj])
  rw [k] at e
  have e2 := e.symm
  simp only [Bool.and_eq_true, decide_eq_true_eq] at e2
  exact ⟨by simpa using e2.1.1, e2.2.1, e2.2.2⟩
theorem sumM_take {l : List (Int × Int)} {i : Nat} (hi : i < l.length) : sumM (l.take (i + 1)) = sumM (l.take i) + l[i].2 := by rw [(List.take_append_getElem hi).symm, sumM_snoc]
theorem gR_sum {l : List (Int × Int)} (h : gRuns l = true) : ∀ i, i ≤ l.length → (i : Int) ≤ sumM (l.take i) ∧ sumM (l.take i) ≤ 100 ∧ ((exN (l.take i)).length : Int) = sumM (l.take i)
  | 0, _ => by simp [sumM, exN]
  | i + 1, hi => by
    have ih := gR_sum h i (by omega)
    have f := gR_facts h (show i < l.length by omega)
    rw [sumM_take (show i < l.length by omega), (List.take_append_getElem (show i < l.length by omega)).symm, exN_snoc]
    simp only [List.length_append, List.length_replicate]
    omega
theorem exN_take {l : List (Int × Int)} {i : Nat} (hi : i < l.length) : exN (l.take (i + 1)) = exN (l.take i) ++ List.replicate l[i].2.toNat l[i].1 := by rw [(List.take_append_getElem hi).symm, exN_snoc]
/-- A row with a part of it laid anew. -/
def fl15 (L : List Int) (o i : Nat) (x : Int) : List Int := L.take o ++ List.replicate i x ++ L.drop (o + i)
theorem fl15_zero (L : List Int) (o : Nat) (x : Int) : fl15 L o 0 x = L := by simp [fl15]
theorem fl15_len {L : List Int} {o i : Nat} (x : Int) (h : o + i ≤ L.length) : (fl15 L o i x).length = L.length := by simp [fl15]; omega
theorem fl15_set {L : List Int} {o i : Nat} {x : Int} (h : o + i < L.length) : (fl15 L o i x).set (o + i) x = fl15 L o (i + 1) x := by
  unfold fl15
  have e : L.drop (o + i) = L[o + i] :: L.drop (o + i + 1) := List.drop_eq_getElem_cons h
  rw [e, List.set_append, if_neg (by simp; omega), show (o + i) - (L.take o ++ List.replicate i x).length = 0 by simp; omega, List.set_cons_zero, List.replicate_succ', List.append_assoc, List.append_assoc]
  simp [Nat.add_assoc]
theorem fl15_all {L : List Int} {o m : Nat} (x : Int) (h : o + m = L.length) : fl15 L o m x = L.take o ++ List.replicate m x := by
  unfold fl15
  rw [h, List.drop_length, List.append_nil]
theorem RwI.fills {B g n c : Nat} {L : List Int} {o : Nat} {x : Int} : ∀ (k i : Nat) {w : World}, o + i + k ≤ L.length → RwI B w (.slice (some ⟨g, 0, none⟩) n c) (fl15 L o i x) →
    RwI B (w.setCells g (o + i) (List.replicate k (.int .i64 x))) (.slice (some ⟨g, 0, none⟩) n c) (fl15 L o (i + k) x)
  | 0, i, w, h, r => r
  | k + 1, i, w, h, r => by
    have r1 := r.put11 (o + i) x
    rw [fl15_set (by omega)] at r1
    have r2 := RwI.fills k (i + 1) (by omega) r1
    rw [show i + 1 + k = i + (k + 1) by omega, show o + (i + 1) = o + i + 1 by omega] at r2
    exact r2
theorem clear_ints (w : World) (b o n c : Nat) (hn : 0 < n) (hc : ∀ j, j < n → (w.cell? ⟨b, o + j, none⟩).isSome = true) (hf : ∀ j, j < n → w.frozen? ⟨b, o + j, none⟩ = false) :
    ∀ ty, (Builtin.clear_ #[23] ty #[.slice (some ⟨b, o, none⟩) n c]).run Tryd.prog w = .ok (.tuple #[]) (w.setCells b o (List.replicate n (.int .i64 0))) := fun ty =>
  Lib.run_clear_slice w 23 3 ty (.int .i64 0) Tryd.underlying23 (fun w => by kernel_rfl) rfl rfl b o n c hn hc hf
theorem setCells_but {g : Nat} : ∀ (vs : List Value) (o : Nat) {w0 w : World}, But g (g + 1) w0 w → But g (g + 1) w0 (w.setCells g o vs)
  | [], o, w0, w, h => h
  | v :: vs, o, w0, w, h => setCells_but vs (o + 1) (h.set (p := ⟨g, o, none⟩) (Nat.le_refl g) (Nat.lt_succ_self g) v)
set_option maxHeartbeats 4000000 in
theorem fillI (B g N C o m c : Nat) (L : List Int) (x : Int) (w : World) (h : RwI B w (.slice (some ⟨g, 0, none⟩) N C) L) (hm : o + m = L.length) (h0 : 0 < m) (hN : N ≤ 1048576) :
    Calls Tryd.prog 71 #[.slice (some ⟨g, o, none⟩) m c, .int .i64 x] w fun e w' => e = .returned (.tuple #[]) ∧ But g (g + 1) w w' ∧ RwI B w' (.slice (some ⟨g, 0, none⟩) N C) (L.take o ++ List.replicate m x) := by
  have hl := h.len11
  have hr := h.row
  rw [hl] at hr
  have EF := hide (fl15_all (L := L) (o := o) (m := m) x hm)
  by_cases hx : x = 0
  · have dx : (x == 0) = true := by rw [beq_iff_eq]; exact hx
    have HC := clear_ints w g o m c h0 (fun j hj => by rw [hr.cellAt _ (by omega), List.getElem?_eq_getElem (by simp; omega)]; rfl) (fun j hj => hr.frozenAt _)
    have R1 := hide ((show RwI B w (.slice (some ⟨g, 0, none⟩) N C) (fl15 L o 0 0) by rw [fl15_zero]; exact h).fills m 0 (by omega))
    have B1 := hide (setCells_but (g := g) (List.replicate m (.int .i64 0)) o (But.refl g (g + 1) w))
    subst hx
    clear h hr hl
    go_enter Tryd.func71, Tryd.ntmps71
    go_wp2_with (simp only [HC])
    refine bodyPost_ret (results_none rfl _ _ _) rfl ⟨rfl, unhide B1, ?_⟩
    rw [← unhide EF]
    have := unhide R1
    rw [Nat.add_zero, Nat.zero_add] at this
    exact this
  · have dx : (x == 0) = false := by rw [beq_eq_false_iff_ne]; exact hx
    have HR := hide h
    have HL := hide hl
    have HM := hide hm
    have m1 : m ≤ 1048576 := by omega
    clear h hr hl hm hx h0
    go_enter Tryd.func71, Tryd.ntmps71
    go_wp2
    go_loopw [10] (fun iv wr => ∃ i : Nat, i ≤ m ∧ iv = .int .i64 i ∧ Hid (RwI B wr (.slice (some ⟨g, 0, none⟩) N C) (fl15 L o i x)) ∧ Hid (But g (g + 1) w wr)) (fun iv _ => m - (intOf iv).toNat)
    case atStart => exact ⟨0, Nat.zero_le _, rfl, hide (by rw [fl15_zero]; exact unhide HR), hide (But.refl _ _ _)⟩
    case round =>
      clear HR
      obtain ⟨i, hi, rfl, R, HB⟩ := hrel
      by_cases hlt : i < m
      · have hlt' : (i : Int) < (m : Int) := by omega
        have hoi : o + i < L.length := by rw [← unhide HM]; omega
        have hr := (unhide R).row
        rw [fl15_len x (by omega), unhide HL] at hr
        have old : ∃ u, wr.cell? ⟨g, o + i, none⟩ = some u := by
          rw [hr.cellAt _ (by rw [← unhide HL]; omega), List.getElem?_eq_getElem (by rw [List.length_map, fl15_len x (by omega)]; omega)]
          exact ⟨_, rfl⟩
        obtain ⟨u, hu⟩ := old
        have fr : ∀ o, wr.frozen? ⟨g, o, none⟩ = false := fun o => hr.frozenAt o
        have R2 := hide ((unhide R).put11 (o + i) x)
        rw [fl15_set hoi] at R2
        have HB2 := hide ((unhide HB).set (p := ⟨g, o + i, none⟩) (Nat.le_refl g) (Nat.lt_succ_self g) (.int .i64 x))
        clear hr R HB
        go_wp2
        go_roundw
        case rel => exact ⟨i + 1, by omega, by go_num, R2, HB2⟩
        case measure => simp [intOf]; omega
      · obtain rfl : i = m := by omega
        go_wp2
        go_end0
        refine ⟨rfl, unhide HB, ?_⟩
        rw [← unhide EF]
        exact unhide R
set_option maxHeartbeats 2000000 in
theorem manyI (a : Option Addr) (n c : Nat) (l : List (Int × Int)) (w : World) (h : SlP w a l) (hn : l.length = n) (h1 : n ≤ 1048576) (hg : gRuns l = true) :
    Calls Tryd.prog 70 #[.slice a n c] w fun e w' => e = .returned (.int .i64 (sumM l)) ∧ Below w.heap.size w w' := by
  have HS := hide h
  have HN := hide hn
  have HG := hide hg
  clear h hn hg
  go_enter Tryd.func70, Tryd.ntmps70
  go_wp2
  go_loopw [3, 8] (fun mv iv wr => ∃ (i : Nat) (s : Int), i ≤ n ∧ iv = .int .i64 i ∧ mv = .int .i64 s ∧ Hid (s = sumM (l.take i)) ∧ Hid (Below w.heap.size w wr)) (fun _ iv _ => n - (intOf iv).toNat)
  case atStart => exact ⟨0, 0, Nat.zero_le _, rfl, rfl, hide (by simp [sumM]), hide (Below.refl _ _)⟩
  case round =>
    obtain ⟨i, s, hi, rfl, rfl, ES, HB⟩ := hrel
    by_cases hlt : i < n
    · have hlt' : (i : Int) < (n : Int) := by omega
      have hil : i < l.length := by rw [unhide HN]; exact hlt
      rcases (unhide HS) with e | ⟨b, off, rfl, hb, hc⟩
      · exact absurd (unhide HN) (by rw [e]; simp; omega)
      have e0 := hc i hil
      have s0 := gR_sum (unhide HG) i (by omega)
      have s1 := gR_sum (unhide HG) (i + 1) (by omega)
      have st := sumM_take hil
      obtain ⟨v, hv⟩ : ∃ v, v = l[i].1 := ⟨_, rfl⟩
      obtain ⟨m, hmv⟩ : ∃ m, m = l[i].2 := ⟨_, rfl⟩
      rw [← hmv] at st
      have E0 : wr.cell? ⟨b, off + i * 2, none⟩ = some (.int .i64 v) := by rw [hv]; exact ((unhide HB).cell (p := ⟨b, off + i * 2, none⟩) hb).trans (e0.1)
      have E1 : wr.cell? ⟨b, off + i * 2 + 1, none⟩ = some (.int .i64 m) := by rw [hmv]; exact ((unhide HB).cell (p := ⟨b, off + i * 2 + 1, none⟩) hb).trans (e0.2)
      have wm : IntKind.i64.wrap (s + m) = s + m := by rw [IntKind.wrap_i64]; have := unhide ES; omega
      have ES2 : Hid (s + m = sumM (l.take (i + 1))) := hide (by rw [st, unhide ES])
      have HB2 := hide ((unhide HB).alloc (by have := (unhide HB).size; omega) (.cells #[.int .i64 v, .int .i64 m] 66))
      clear e0 s0 s1 st hv hmv hc ES HB
      go_wp2
      go_roundw
      case rel => exact ⟨i + 1, s + m, by omega, by go_num, rfl, ES2, HB2⟩
      case measure => simp [intOf]; omega
    · obtain rfl : i = n := by omega
      have EL : Hid (s = sumM l) := hide (by rw [unhide ES, ← unhide HN, List.take_length])
      go_wp2
      go_ret
      exact ⟨by rw [← unhide EL]; rfl, unhide HB⟩
end Go.Proofs.YtcgbpcipdanfhaaDoor

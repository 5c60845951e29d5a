/- Chapter 10 of the program: the widest two of a cloud. No condition beyond those typed. No condition beyond those typed. Written by mkwi10.py. -/
import Derived.Test.YtgoiodhofbkkdaaLe10
namespace Go.Proofs.Ytgoiodhofbkkdaa
open Go.RowKit
set_option linter.unusedVariables false
set_option maxRecDepth 100000
set_option linter.unusedSimpArgs false

theorem sqP_comm (a b : Int × Int) : sqP a b = sqP b a := by
  unfold sqP
  have h1 : a.1 - b.1 = -(b.1 - a.1) := by omega
  have h2 : a.2 - b.2 = -(b.2 - a.2) := by omega
  rw [h1, h2, Int.neg_mul_neg, Int.neg_mul_neg]
theorem sqP_self (a : Int × Int) : sqP a a = 0 := by unfold sqP; simp
def vI (l : List (Int × Int)) (a : Int × Int) (m : Int) : Nat → Int
  | 0 => m
  | k + 1 => max (vI l a m k) (sqP (l.getD k (0, 0)) a)
def vO (l : List (Int × Int)) : Nat → Int
  | 0 => 0
  | k + 1 => vI l (l.getD k (0, 0)) (vO l k) k
theorem wI_le (l : List (Int × Int)) (a : Int × Int) (m t : Int) : ∀ k, wI l a m k ≤ t ↔ m ≤ t ∧ ∀ j, j < k → sqP a (l.getD j (0, 0)) ≤ t
  | 0 => by simp [wI]
  | k + 1 => by
    unfold wI
    rw [Int.max_le, wI_le l a m t k]
    constructor
    · rintro ⟨⟨h1, h2⟩, h3⟩
      refine ⟨h1, fun j hj => ?_⟩
      by_cases e : j = k
      · subst e; exact h3
      · exact h2 j (by omega)
    · rintro ⟨h1, h2⟩
      exact ⟨⟨h1, fun j hj => h2 j (by omega)⟩, h2 k (by omega)⟩
theorem vI_le (l : List (Int × Int)) (a : Int × Int) (m t : Int) : ∀ k, vI l a m k ≤ t ↔ m ≤ t ∧ ∀ j, j < k → sqP (l.getD j (0, 0)) a ≤ t
  | 0 => by simp [vI]
  | k + 1 => by
    unfold vI
    rw [Int.max_le, vI_le l a m t k]
    constructor
    · rintro ⟨⟨h1, h2⟩, h3⟩
      refine ⟨h1, fun j hj => ?_⟩
      by_cases e : j = k
      · subst e; exact h3
      · exact h2 j (by omega)
    · rintro ⟨h1, h2⟩
      exact ⟨⟨h1, fun j hj => h2 j (by omega)⟩, h2 k (by omega)⟩
theorem wO_le (l : List (Int × Int)) (t : Int) : ∀ k, wO l k ≤ t ↔ 0 ≤ t ∧ ∀ i, i < k → ∀ j, j < l.length → sqP (l.getD i (0, 0)) (l.getD j (0, 0)) ≤ t
  | 0 => by simp [wO]
  | k + 1 => by
    unfold wO
    rw [wI_le, wO_le l t k]
    constructor
    · rintro ⟨⟨h1, h2⟩, h3⟩
      refine ⟨h1, fun i hi => ?_⟩
      by_cases e : i = k
      · subst e; exact h3
      · exact h2 i (by omega)
    · rintro ⟨h1, h2⟩
      exact ⟨⟨h1, fun i hi => h2 i (by omega)⟩, h2 k (by omega)⟩
theorem vO_le (l : List (Int × Int)) (t : Int) : ∀ k, vO l k ≤ t ↔ 0 ≤ t ∧ ∀ i, i < k → ∀ j, j < i → sqP (l.getD j (0, 0)) (l.getD i (0, 0)) ≤ t
  | 0 => by simp [vO]
  | k + 1 => by
    unfold vO
    rw [vI_le, vO_le l t k]
    constructor
    · rintro ⟨⟨h1, h2⟩, h3⟩
      refine ⟨h1, fun i hi => ?_⟩
      by_cases e : i = k
      · subst e; exact h3
      · exact h2 i (by omega)
    · rintro ⟨h1, h2⟩
      exact ⟨⟨h1, fun i hi => h2 i (by omega)⟩, h2 k (by omega)⟩
theorem vO_wO (l : List (Int × Int)) : vO l l.length = wO l l.length := by
  have key : ∀ t, vO l l.length ≤ t ↔ wO l l.length ≤ t := fun t => by
    rw [vO_le, wO_le]
    constructor
    · rintro ⟨h1, h2⟩
      refine ⟨h1, fun i hi j hj => ?_⟩
      rcases Nat.lt_trichotomy i j with h | h | h
      · exact h2 j hj i h
      · rw [h, sqP_self]; exact h1
      · rw [sqP_comm]; exact h2 i hi j h
    · rintro ⟨h1, h2⟩
      exact ⟨h1, fun i hi j hj => h2 j (by omega) i (by omega)⟩
  have a := (key (wO l l.length)).2 (Int.le_refl _)
  have b := (key (vO l l.length)).1 (Int.le_refl _)
  omega
set_option maxHeartbeats 8000000 in
theorem widestI (a : Option Addr) (n c : Nat) (l : List (Int × Int)) (w : World) (h : ArP w a n c l) (h0 : 0 < n) (h1 : n ≤ 16) (hg : ∀ p ∈ l, gPt p = true) :
    Calls Try.prog 55 #[.slice a n c] w fun e w' => e = .returned (.int .i64 (wO l l.length)) ∧ Below w.heap.size w w' := by
  have EV : Hid (vO l n = wO l l.length) := hide (by rw [← vO_wO, h.len])
  have HN := hide h.len
  have HG := hide hg
  have hcap := h.cap
  have htop := h.top
  unfold maxLen at htop
  rcases h.sl with e | ⟨b, off, rfl, hbb, hc⟩
  · exact absurd (unhide HN) (by rw [e]; simp; omega)
  have HC := hide hc
  clear hc hg h
  generalize wO l l.length = res at *
  go_enter Try.func55, Try.ntmps55
  go_wp2
  go_loopw [3, 12] (fun mv iv wr => ∃ i : Nat, i ≤ n ∧ iv = .int .i64 i ∧ mv = .int .i64 (vO l i) ∧ Hid (Below w.heap.size w wr)) (fun _ iv _ => n - (intOf iv).toNat)
  case atStart => exact ⟨0, Nat.zero_le _, rfl, rfl, hide (Below.refl _ _)⟩
  case round =>
    obtain ⟨i, hi, rfl, rfl, HR⟩ := hrel
    by_cases hlt : i < n
    · have hlt' : (i : Int) < (n : Int) := by omega
      obtain ⟨wo, hwo⟩ : ∃ x, x = wr := ⟨_, rfl⟩
      subst hwo
      have e0 := unhide HC i (by rw [unhide HN]; exact hlt)
      rw [← getD_gt (by rw [unhide HN]; exact hlt)] at e0
      have gp := getD_good (unhide HG) (i := i) (by rw [unhide HN]; exact hlt)
      have ES : Hid (vO l (i + 1) = vI l (l.getD i (0, 0)) (vO l i) i) := hide rfl
      generalize vO l i = m0 at *
      generalize l.getD i (0, 0) = p at *
      have E0 : wo.cell? ⟨b, off + i * 2, none⟩ = some (.int .i64 p.1) := ((unhide HR).cell (p := ⟨b, off + i * 2, none⟩) hbb).trans e0.1
      have E1 : wo.cell? ⟨b, off + i * 2 + 1, none⟩ = some (.int .i64 p.2) := ((unhide HR).cell (p := ⟨b, off + i * 2 + 1, none⟩) hbb).trans e0.2
      have al : Below wo.heap.size wo (wo.alloc (.cells #[.int .i64 p.1, .int .i64 p.2] 31)) := (Below.refl _ _).alloc (Nat.le_refl _) _
      have k0 : (wo.alloc (.cells #[.int .i64 p.1, .int .i64 p.2] 31)).cell? ⟨wo.heap.size, 0, none⟩ = some (.int .i64 p.1) := by simp [go_sem]
      have k1 : (wo.alloc (.cells #[.int .i64 p.1, .int .i64 p.2] 31)).cell? ⟨wo.heap.size, 1, none⟩ = some (.int .i64 p.2) := by simp [go_sem]
      have KA := hide (And.intro k0 k1)
      have HR1 := hide (below_on (unhide HR) al)
      have ltb : wo.heap.size < (wo.alloc (.cells #[.int .i64 p.1, .int .i64 p.2] 31)).heap.size := by simp
      have ic : (i : Int) ≤ (c : Int) := by omega
      clear e0 al k0 k1
      go_upto_region 5 with fail
      clear E0 E1 HR
      generalize wo.alloc (.cells #[.int .i64 p.1, .int .i64 p.2] 31) = w3 at *
      go_wp2
      go_loopw [3, 21] (fun mv jv wr => ∃ j : Nat, j ≤ i ∧ jv = .int .i64 j ∧ mv = .int .i64 (vI l p m0 j) ∧ Hid (Below w3.heap.size w3 wr)) (fun _ jv _ => i - (intOf jv).toNat)
      case atStart => exact ⟨0, Nat.zero_le _, rfl, rfl, hide (Below.refl _ _)⟩
      case round =>
        obtain ⟨j, hj, rfl, rfl, HR⟩ := hrel
        by_cases hjl : j < i
        · have hjl' : (j : Int) < (i : Int) := by omega
          have HRR := hide (below_on (unhide HR1) (unhide HR))
          have e0 := unhide HC j (by rw [unhide HN]; omega)
          rw [← getD_gt (by rw [unhide HN]; omega)] at e0
          have gq := getD_good (unhide HG) (i := j) (by rw [unhide HN]; omega)
          have EJ : Hid (vI l p m0 (j + 1) = max (vI l p m0 j) (sqP (l.getD j (0, 0)) p)) := hide rfl
          generalize vI l p m0 j = m1 at *
          generalize l.getD j (0, 0) = q at *
          have E0 : wr.cell? ⟨b, off + j * 2, none⟩ = some (.int .i64 q.1) := ((unhide HRR).cell (p := ⟨b, off + j * 2, none⟩) hbb).trans e0.1
          have E1 : wr.cell? ⟨b, off + j * 2 + 1, none⟩ = some (.int .i64 q.2) := ((unhide HRR).cell (p := ⟨b, off + j * 2 + 1, none⟩) hbb).trans e0.2
          simp only [gPt, inR, Bool.and_eq_true, decide_eq_true_eq] at gp gq
          have m2 := @mul_bd (q.1 - p.1) (q.1 - p.1) (by omega) (by omega) (by omega) (by omega)
          have m3 := @mul_bd (q.2 - p.2) (q.2 - p.2) (by omega) (by omega) (by omega) (by omega)
          have v1 : IntKind.i64.wrap (q.1 - p.1) = q.1 - p.1 := by rw [IntKind.wrap_i64]; omega
          have v2 : IntKind.i64.wrap (q.2 - p.2) = q.2 - p.2 := by rw [IntKind.wrap_i64]; omega
          have v3 : IntKind.i64.wrap ((q.1 - p.1) * (q.1 - p.1)) = (q.1 - p.1) * (q.1 - p.1) := by rw [IntKind.wrap_i64]; omega
          have v4 : IntKind.i64.wrap ((q.2 - p.2) * (q.2 - p.2)) = (q.2 - p.2) * (q.2 - p.2) := by rw [IntKind.wrap_i64]; omega
          have v5 : IntKind.i64.wrap ((q.1 - p.1) * (q.1 - p.1) + (q.2 - p.2) * (q.2 - p.2)) = sqP q p := by rw [IntKind.wrap_i64]; unfold sqP; omega
          have k0 := (unhide HR).cell (p := ⟨wo.heap.size, 0, none⟩) ltb |>.trans (unhide KA).1
          have k1 := (unhide HR).cell (p := ⟨wo.heap.size, 1, none⟩) ltb |>.trans (unhide KA).2
          have ltc : wo.heap.size < wr.heap.size := World.block_lt_of_cell? _ _ k0
          have al : Below wr.heap.size wr (wr.alloc (.cells #[.int .i64 q.1, .int .i64 q.2] 31)) := (Below.refl _ _).alloc (Nat.le_refl _) _
          replace k0 := cell_later al k0
          replace k1 := cell_later al k1
          have n0 : (wr.alloc (.cells #[.int .i64 q.1, .int .i64 q.2] 31)).cell? ⟨wr.heap.size, 0, none⟩ = some (.int .i64 q.1) := by simp [go_sem]
          have n1 : (wr.alloc (.cells #[.int .i64 q.1, .int .i64 q.2] 31)).cell? ⟨wr.heap.size, 1, none⟩ = some (.int .i64 q.2) := by simp [go_sem]
          have HR2 := hide (below_on (unhide HR) al)
          clear e0 al m2 m3 gq
          go_upto_region 8 with fail
          clear E0 E1 HR HRR
          generalize wr.alloc (.cells #[.int .i64 q.1, .int .i64 q.2] 31) = w4 at *
          go_region_held3 (fun w' => w'.cell? ⟨wo.heap.size, 0, none⟩ = some (.int .i64 p.1) ∧ w'.cell? ⟨wo.heap.size, 1, none⟩ = some (.int .i64 p.2) ∧ w'.cell? ⟨wr.heap.size, 0, none⟩ = some (.int .i64 q.1) ∧ w'.cell? ⟨wr.heap.size, 1, none⟩ = some (.int .i64 q.2))
            (with_reducible (first | exact ⟨k0, k1, n0, n1⟩ | exact ⟨cdP k0, cdP k1, cdP n0, cdP n1⟩ | fail))
            (fail)
          replace HR2 := hide (unhide HR2).drew
          generalize w4.drew = w5 at *
          go_wp2
          go_roundw
          case rel => exact ⟨j + 1, by omega, by go_num, by rw [unhide EJ]; first | rfl | (congr 1; omega) | trace_state, HR2⟩
          case measure => simp [intOf]; omega
        · obtain rfl : j = i := by omega
          have HRR := hide (below_on (unhide HR1) (unhide HR))
          generalize vI l p m0 j = m1 at *
          go_wp2
          go_roundw
          case rel => exact ⟨j + 1, by omega, by go_num, by rw [unhide ES], HRR⟩
          case measure => simp [intOf]; omega
    · obtain rfl : i = n := by omega
      go_wp2
      go_ret
      exact ⟨by rw [← unhide EV]; rfl, unhide HR⟩
set_option maxHeartbeats 2000000 in
theorem WidestInI (a : Option Addr) (n c : Nat) (l : List (Int × Int)) (w : World) (h : ArP w a n c l) (h1 : n ≤ 1048576) :
    Calls Try.prog 20 #[.slice a n c] w fun e w' => e = .returned (.tuple #[.int .i64 (wdV l), .bool (cloB l)]) ∧ Below w.heap.size w w' := by
  have hn := h.len
  have C1 := hide (fun w (k : SlP w a l) => cloudI a n c l w k hn (by unfold maxLen; omega))
  have HS := hide h
  clear h
  cases hg : cloB l
  · have EV : wdV l = 0 := by unfold wdV; rw [hg]; rfl
    rw [EV]
    rw [hg] at C1
    clear hg EV
    go_enter Try.func20, Try.ntmps20
    go_wp2_with fail
    refine (unhide C1 _ (unhide HS).sl).mono ?_
    rintro e w1 ⟨rfl, hb⟩
    go_wp2_with fail
    go_ret2
    exact ⟨rfl, hb⟩
  · have EV : wdV l = wO l l.length := by unfold wdV; rw [hg]; rfl
    have cp := clo_parts hg
    have ln := cp.1
    rw [hn] at ln
    rw [EV]
    rw [hg] at C1
    have C2 := hide (fun w (k : ArP w a n c l) => widestI a n c l w k (by omega) (by omega) cp.2)
    generalize wO l l.length = r at *
    clear hg EV cp hn ln
    go_enter Try.func20, Try.ntmps20
    go_wp2_with fail
    refine (unhide C1 _ (unhide HS).sl).mono ?_
    rintro e w1 ⟨rfl, hb⟩
    have HB := hide hb
    replace HS := hide ((unhide HS).later hb)
    clear hb
    go_wp2_with fail
    refine (unhide C2 _ (unhide HS)).mono ?_
    rintro e w2 ⟨rfl, hb⟩
    replace HB := hide (below_on (unhide HB) hb)
    clear hb
    go_wp2_with fail
    go_ret2
    exact ⟨rfl, unhide HB⟩
end Go.Proofs.Ytgoiodhofbkkdaa

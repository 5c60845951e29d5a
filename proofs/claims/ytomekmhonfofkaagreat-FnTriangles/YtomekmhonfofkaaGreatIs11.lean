/- slices.Sort over a row of integers of one's own, of twelve at most. No condition beyond those typed. -/
import Derived.Test.YtomekmhonfofkaaGreatRt11
import Derived.Test.YtomekmhonfofkaaGreatIm8
import Derived.Deep.RegionHeld3
import Derived.BigQuiet
import Derived.Maps.AppendAt
namespace Go.Proofs.YtomekmhonfofkaaGreat
open Go.RowKit
set_option linter.unusedVariables false
set_option maxRecDepth 100000
set_option linter.unusedSimpArgs false

theorem RwI.at11 {B g n c : Nat} {w : World} {L : List Int} (h : RwI B w (.slice (some ⟨g, 0, none⟩) n c) L) {i : Nat} (hi : i < L.length) : w.cell? ⟨g, i, none⟩ = some (.int .i64 (L.getD i 0)) := by
  rcases h.open with ⟨e, _⟩ | ⟨g', c', e, _, _, _, _, hc⟩
  · cases e
  · simp only [Value.slice.injEq, Option.some.injEq, Addr.mk.injEq] at e
    obtain ⟨⟨rfl, _⟩, _, _⟩ := e
    rw [hc i hi, List.getD_eq_getElem?_getD, List.getElem?_eq_getElem hi]
    rfl
theorem RwI.len11 {B g n c : Nat} {w : World} {L : List Int} (h : RwI B w (.slice (some ⟨g, 0, none⟩) n c) L) : L.length = n := by
  rcases h.open with ⟨e, _⟩ | ⟨g', c', e, _⟩
  · cases e
  · simp only [Value.slice.injEq] at e
    exact e.2.1.symm
theorem RwI.put11 {B g n c : Nat} {w : World} {L : List Int} (h : RwI B w (.slice (some ⟨g, 0, none⟩) n c) L) (k : Nat) (x : Int) : RwI B (w.setCell ⟨g, k, none⟩ (.int .i64 x)) (.slice (some ⟨g, 0, none⟩) n c) (L.set k x) := by
  refine ⟨?_⟩
  rw [List.length_set, List.map_set]
  have hr := h.row
  obtain rfl : L.length = n := h.len11
  exact (World.ownsRow.stored hr k (.int .i64 x)).1
theorem set_oth11 {w : World} {s k g : Nat} {x : Value} (hne : g ≠ s) : (w.setCell ⟨s, k, none⟩ x).heap[g]? = w.heap[g]? := by
  have hs : (w.setCell ⟨s, k, none⟩ x).heap.size = w.heap.size := by simp [World.setCell]
  have := (But.refl (s) (s + 1) w).set (p := ⟨s, k, none⟩) (Nat.le_refl s) (Nat.lt_succ_self s) x
  by_cases h : g < w.heap.size
  · exact this.block g h (by omega)
  · rw [Array.getElem?_eq_none (xs := w.heap) (by omega), Array.getElem?_eq_none (by omega)]
theorem grown_set11 {w : World} {g k : Nat} {x : Value} : w.grownBy (w.setCell ⟨g, k, none⟩ x) (some g) :=
  ⟨rfl, rfl, rfl, by simp [World.setCell], fun j _ hne => set_oth11 (fun e => hne (by rw [e]))⟩
theorem grown_bel11 {w w' : World} (h : Below w.heap.size w w') (r : Option Nat) : w.grownBy w' r := ⟨h.os, h.tape, h.output, h.size, fun k hk _ => h.block k hk⟩
/-- The first m rise. -/
def Srt (L : List Int) (m : Nat) : Prop := ∀ x y, x < y → y < m → L.getD x 0 ≤ L.getD y 0
/-- The first i + 1 rise, but for what lies at j. -/
def SrtE (L : List Int) (i j : Nat) : Prop := ∀ x y, x < y → y ≤ i → y ≠ j → L.getD x 0 ≤ L.getD y 0
def swI (L : List Int) (j : Nat) : List Int := (L.set j (L.getD (j - 1) 0)).set (j - 1) (L.getD j 0)
theorem swI_len (L : List Int) (j : Nat) : (swI L j).length = L.length := by simp [swI]
theorem swI_perm {L : List Int} {j : Nat} (h0 : 0 < j) (hj : j < L.length) : (swI L j).Perm L := by
  have h1 : j - 1 < L.length := by omega
  have := @List.set_set_perm _ L j (j - 1) hj h1
  unfold swI
  rw [List.getD_eq_getElem?_getD, List.getD_eq_getElem?_getD, List.getElem?_eq_getElem hj, List.getElem?_eq_getElem h1]
  exact this
theorem swI_at {L : List Int} {j : Nat} (h0 : 0 < j) (hj : j < L.length) (x : Nat) : (swI L j).getD x 0 = if x = j then L.getD (j - 1) 0 else if x = j - 1 then L.getD j 0 else L.getD x 0 := by
  unfold swI
  simp only [List.getD_eq_getElem?_getD, List.getElem?_set, List.length_set]
  by_cases c1 : x = j
  · subst c1
    rw [if_neg (by omega), if_pos rfl, if_pos (by omega), if_pos rfl]
    rfl
  · by_cases c2 : x = j - 1
    · subst c2
      rw [if_pos rfl, if_pos (by omega), if_neg c1, if_pos rfl]
      rfl
    · rw [if_neg (fun e => c2 e.symm), if_neg (fun e => c1 e.symm), if_neg c1, if_neg c2]
theorem srt_start {L : List Int} {i : Nat} (h : Srt L i) : SrtE L i i := fun x y h1 h2 h3 => h x y h1 (by omega)
theorem srt_swap {L : List Int} {i j : Nat} (h : SrtE L i j) (h0 : 0 < j) (hi : j ≤ i) (hj : j < L.length) (hl : L.getD j 0 < L.getD (j - 1) 0) : SrtE (swI L j) i (j - 1) := by
  intro x y h1 h2 h3
  rw [swI_at h0 hj, swI_at h0 hj]
  have a1 := h x (j - 1)
  have a2 := h (j - 1) y
  have a3 := h j y
  have a4 := h x y
  by_cases c1 : y = j
  · subst c1
    rw [if_pos rfl, if_neg (by omega)]
    by_cases c2 : x = y - 1
    · rw [if_pos c2]; omega
    · rw [if_neg c2]; exact a1 (by omega) (by omega) (by omega)
  · rw [if_neg c1, if_neg h3]
    by_cases c2 : x = j
    · rw [if_pos c2]; exact a2 (by omega) (by omega) c1
    · rw [if_neg c2]
      by_cases c3 : x = j - 1
      · rw [if_pos c3]; exact a3 (by omega) h2 c1
      · rw [if_neg c3]; exact a4 h1 h2 c1
theorem srt_end {L : List Int} {i j : Nat} (h : SrtE L i j) (hi : j ≤ i) (he : j = 0 ∨ L.getD (j - 1) 0 ≤ L.getD j 0) : Srt L (i + 1) := by
  intro x y h1 h2
  by_cases c : y = j
  · subst c
    rcases he with k | k
    · omega
    · by_cases c2 : x = y - 1
      · rw [c2]; exact k
      · have := h x (y - 1) (by omega) (by omega) (by omega)
        omega
  · exact h x y h1 (by omega) c
theorem lessI (x y : Int) (w : World) : Calls Tryz.prog 98 #[.int .i64 x, .int .i64 y] w fun e w' => e = .returned (.bool (decide (x < y))) ∧ w' = w := by
  cases d1 : decide (x < y)
  · go_enter Tryz.func98, Tryz.ntmps98
    go_wp2_with fail
    refine (nanI x _).mono ?_
    rintro e w1 ⟨rfl, rfl⟩
    go_wp2_with fail
    go_ret
    exact ⟨rfl, rfl⟩
  · go_enter Tryz.func98, Tryz.ntmps98
    go_wp2_with fail
    refine (nanI x _).mono ?_
    rintro e w1 ⟨rfl, rfl⟩
    go_wp2_with fail
    go_ret
    exact ⟨rfl, rfl⟩
set_option maxHeartbeats 8000000 in
theorem insI11 (B g n c : Nat) (L : List Int) (w : World) (h : RwI B w (.slice (some ⟨g, 0, none⟩) n c) L) (hl : n ≤ 100) :
    Calls Tryz.prog 92 #[.slice (some ⟨g, 0, none⟩) n c, .int .i64 0, .int .i64 n] w fun e w' => (∃ r, e = .returned r) ∧ (∃ L', RwI B w' (.slice (some ⟨g, 0, none⟩) n c) L' ∧ L'.Perm L ∧ Srt L' n) ∧ w.grownBy w' (some g) := by
  have HW := hide h
  have HN := hide h.len11
  clear h
  go_enter Tryz.func92, Tryz.ntmps92
  go_wp2
  go_loopw [6] (fun iv wr => ∃ i : Nat, 1 ≤ i ∧ i ≤ n + 1 ∧ iv = .int .i64 i ∧ (∃ L', Hid (RwI B wr (.slice (some ⟨g, 0, none⟩) n c) L') ∧ Hid (L'.Perm L) ∧ Hid (Srt L' i)) ∧ Hid (w.grownBy wr (some g))) (fun iv _ => n + 1 - (intOf iv).toNat)
  case atStart => exact ⟨1, Nat.le_refl _, by omega, by go_num, ⟨L, HW, hide (List.Perm.refl _), hide (fun x y h1 h2 => by omega)⟩, hide (grown_bel11 (Below.refl _ _) _)⟩
  case round =>
    obtain ⟨i, i1, i2, rfl, ⟨L1, HR, HP, HS⟩, HG⟩ := hrel
    obtain ⟨wp, hwp⟩ : ∃ x, x = wr := ⟨_, rfl⟩
    subst hwp
    by_cases hlt : i < n
    · have hlt' : (i : Int) < (n : Int) := by omega
      go_upto_region 4 with fail
      go_loopw [7] (fun jv wr => ∃ j : Nat, j ≤ i ∧ jv = .int .i64 j ∧ (∃ L', Hid (RwI B wr (.slice (some ⟨g, 0, none⟩) n c) L') ∧ Hid (L'.Perm L) ∧ Hid (SrtE L' i j)) ∧ Hid (w.grownBy wr (some g))) (fun jv _ => (intOf jv).toNat)
      case atStart => exact ⟨i, Nat.le_refl _, rfl, ⟨L1, HR, HP, hide (srt_start (unhide HS))⟩, HG⟩
      case round =>
        obtain ⟨j, hj, rfl, ⟨L2, R2, P2, S2⟩, G2⟩ := hrel
        have N2 := (unhide R2).len11
        by_cases h0 : j = 0
        · subst h0
          have E2 : Hid (Srt L2 (i + 1)) := hide (srt_end (unhide S2) hj (.inl rfl))
          clear S2
          go_upto_region 4 with fail
          go_quiet (fail)
          go_wp2
          go_roundw
          case rel => exact ⟨i + 1, by omega, by omega, by go_num, ⟨L2, hide ((unhide R2).later (below_drewN (Below.refl _ _) _)), P2, E2⟩, hide ((unhide G2).trans (grown_bel11 (below_drewN (Below.refl _ _) _) _))⟩
          case measure => simp [intOf]; omega
        · obtain ⟨m, hm⟩ : ∃ m, j = m + 1 := ⟨j - 1, by omega⟩
          have c0 := (unhide R2).at11 (i := j) (by omega)
          have c1 := (unhide R2).at11 (i := m) (by omega)
          have fr : ∀ o, wr.frozen? ⟨g, o, none⟩ = false := fun o => by have h := (unhide R2).row; rw [N2] at h; exact h.frozenAt o
          have wj : IntKind.i64.wrap ((j : Int) - 1) = (m : Int) := by rw [IntKind.wrap_i64]; omega
          have lj : (j : Int) < (n : Int) := by omega
          have lm : (m : Int) < (n : Int) := by omega
          have pj : (0 : Int) < (j : Int) := by omega
          have nejm : ¬ (j = m) := by omega
          have dj : decide (0 < j) = true := decide_eq_true (by omega)
          have J1 : Hid (j - 1 = m) := hide (by omega)
          have SW : Hid (L2.getD j 0 < L2.getD m 0 → SrtE (swI L2 j) i m) := hide (fun k => by have := srt_swap (unhide S2) (by omega) hj (by omega) (by rw [show j - 1 = m by omega]; exact k); rw [show j - 1 = m by omega] at this; exact this)
          have SE : Hid (¬ L2.getD j 0 < L2.getD m 0 → Srt L2 (i + 1)) := hide (fun k => srt_end (unhide S2) hj (.inr (by rw [show j - 1 = m by omega]; omega)))
          have ES : Hid (swI L2 j = (L2.set j (L2.getD m 0)).set m (L2.getD j 0)) := hide (by unfold swI; rw [show j - 1 = m by omega])
          have PS : Hid ((swI L2 j).Perm L) := hide ((swI_perm (by omega) (by omega)).trans (unhide P2))
          have hmi : m ≤ i := by omega
          have hmj : m < j := by omega
          generalize L2.getD j 0 = x at *
          generalize L2.getD m 0 = y at *
          clear hm S2
          cases d : decide (x < y)
          · have E2 : Hid (Srt L2 (i + 1)) := hide (unhide SE (of_decide_eq_false d))
            clear SE SW ES PS
            go_upto_region 4 with fail
            go_quiet (first | (go_at_call 98; exact Calls.quiet_of_same (lessI x y _)) | fail)
            go_wp2
            go_roundw
            case rel => exact ⟨i + 1, by omega, by omega, by go_num, ⟨L2, hide ((unhide R2).later (below_drewN (Below.refl _ _) _)), P2, E2⟩, hide ((unhide G2).trans (grown_bel11 (below_drewN (Below.refl _ _) _) _))⟩
            case measure => simp [intOf]; omega
          · have E2 : Hid (SrtE (swI L2 j) i m) := hide (unhide SW (of_decide_eq_true d))
            clear SE SW
            go_upto_region 4 with fail
            go_quiet (first | (go_at_call 98; exact Calls.quiet_of_same (lessI x y _)) | fail)
            have R3 := hide ((unhide R2).later (below_drewN (Below.refl _ _) nq))
            have G3 := hide ((unhide G2).trans (grown_bel11 (below_drewN (Below.refl _ _) nq) _))
            have c0' : (wr.drewN nq).cell? ⟨g, j, none⟩ = some (.int .i64 x) := c0
            have c1' : (wr.drewN nq).cell? ⟨g, m, none⟩ = some (.int .i64 y) := c1
            have fr' : ∀ o, (wr.drewN nq).frozen? ⟨g, o, none⟩ = false := fr
            clear R2 G2 c0 c1 fr
            generalize wr.drewN nq = w6 at *
            go_upto_region 6 with fail
            go_region
            have R4 := (unhide R3).put11 j y
            have R5 := R4.put11 m x
            rw [← unhide ES] at R5
            have G4 : w6.grownBy (((w6.setCell ⟨g, j, none⟩ (.int .i64 y)).setCell ⟨g, m, none⟩ (.int .i64 x)).drew) (some g) := (grown_set11.trans grown_set11).trans (grown_bel11 (Below.refl _ _).drew _)
            have R6 := hide (R5.later (Below.refl _ _).drew)
            have G5 := hide ((unhide G3).trans G4)
            clear R3 R4 R5 G3 G4 c0' c1' fr'
            generalize (((w6.setCell ⟨g, j, none⟩ (.int .i64 y)).setCell ⟨g, m, none⟩ (.int .i64 x)).drew) = w7 at *
            go_wp2
            go_roundw
            case rel => exact ⟨m, hmi, by go_num, ⟨_, R6, PS, E2⟩, G5⟩
            case measure => simp [intOf]; omega
    · have nl : ¬ ((i : Int) < (n : Int)) := by omega
      have HS2 : Hid (Srt L1 n) := hide (fun x y h1 h2 => unhide HS x y h1 (by omega))
      go_wp2
      go_end0
      exact ⟨⟨_, rfl⟩, ⟨L1, unhide HR, unhide HP, unhide HS2⟩, unhide HG⟩
end Go.Proofs.YtomekmhonfofkaaGreat

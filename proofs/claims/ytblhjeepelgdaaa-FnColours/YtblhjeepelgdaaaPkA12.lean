/- The numbers of the corners left, in order. No condition beyond those typed. -/
import Derived.Test.YtblhjeepelgdaaaPkZ12
import Derived.Test.YtblhjeepelgdaaaIm8
import Derived.Deep.RegionHeld3
import Derived.BigQuiet
import Derived.Maps.AppendAt
import Derived.Lib.Strings
import Derived.Lib.Slices
import Derived.Lib.Small
import Derived.Lib.Walk
import Derived.Lib.BitFns
import Derived.Maps.RangeRun
import Derived.Maps.Keyed
import Derived.Maps.RangeWalk
import Derived.OwnWalk
import Derived.Laws.MakeOwn
namespace Go.Proofs.Ytblhjeepelgdaaa
open Go.RowKit
set_option linter.unusedVariables false
set_option maxRecDepth 100000
set_option linter.unusedSimpArgs false

theorem RwI.at11 {B g n c : Nat} {w : World} {L : List Int} (h : RwI B w (.slice (some ⟨g, 0, none⟩) n c) L) {i : Nat} (hi : i < L.length) : w.cell? ⟨g, i, none⟩ = some (.int .i64 (L.getD i 0)) := by
  rcases h.open with ⟨e, _⟩ | ⟨g', c', e, _, _, _, _, hc⟩
  · cases e
  · simp only [Value.slice.injEq, Option.some.injEq, Addr.mk.injEq] at e
    obtain ⟨⟨rfl, _⟩, _, _⟩ := e
    rw [hc i hi, List.getD_eq_getElem?_getD, List.getElem?_eq_getElem hi]
    rfl
theorem RwI.len11 {B g n c : Nat} {w : World} {L : List Int} (h : RwI B w (.slice (some ⟨g, 0, none⟩) n c) L) : L.length = n := by
  rcases h.open with ⟨e, _⟩ | ⟨g', c', e, _⟩
  · cases e
  · simp only [Value.slice.injEq] at e
    exact e.2.1.symm
theorem RwI.put11 {B g n c : Nat} {w : World} {L : List Int} (h : RwI B w (.slice (some ⟨g, 0, none⟩) n c) L) (k : Nat) (x : Int) : RwI B (w.setCell ⟨g, k, none⟩ (.int .i64 x)) (.slice (some ⟨g, 0, none⟩) n c) (L.set k x) := by
  refine ⟨?_⟩
  rw [List.length_set, List.map_set]
  have hr := h.row
  obtain rfl : L.length = n := h.len11
  exact (World.ownsRow.stored hr k (.int .i64 x)).1
theorem set_oth11 {w : World} {s k g : Nat} {x : Value} (hne : g ≠ s) : (w.setCell ⟨s, k, none⟩ x).heap[g]? = w.heap[g]? := by
  have hs : (w.setCell ⟨s, k, none⟩ x).heap.size = w.heap.size := by simp [World.setCell]
  have := (But.refl (s) (s + 1) w).set (p := ⟨s, k, none⟩) (Nat.le_refl s) (Nat.lt_succ_self s) x
  by_cases h : g < w.heap.size
  · exact this.block g h (by omega)
  · rw [Array.getElem?_eq_none (xs := w.heap) (by omega), Array.getElem?_eq_none (by omega)]
theorem grown_set11 {w : World} {g k : Nat} {x : Value} : w.grownBy (w.setCell ⟨g, k, none⟩ x) (some g) :=
  ⟨rfl, rfl, rfl, by simp [World.setCell], fun j _ hne => set_oth11 (fun e => hne (by rw [e]))⟩
theorem grown_bel11 {w w' : World} (h : Below w.heap.size w w') (r : Option Nat) : w.grownBy w' r := ⟨h.os, h.tape, h.output, h.size, fun k hk _ => h.block k hk⟩
/-- The first m rise. -/
def Srt (L : List Int) (m : Nat) : Prop := ∀ x y, x < y → y < m → L.getD x 0 ≤ L.getD y 0
/-- The first i + 1 rise, but for what lies at j. -/
def SrtE (L : List Int) (i j : Nat) : Prop := ∀ x y, x < y → y ≤ i → y ≠ j → L.getD x 0 ≤ L.getD y 0
def swI (L : List Int) (j : Nat) : List Int := (L.set j (L.getD (j - 1) 0)).set (j - 1) (L.getD j 0)
theorem swI_len (L : List Int) (j : Nat) : (swI L j).length = L.length := by simp [swI]
theorem swI_perm {L : List Int} {j : Nat} (h0 : 0 < j) (hj : j < L.length) : (swI L j).Perm L := by
  have h1 : j - 1 < L.length := by omega
  have := @List.set_set_perm _ L j (j - 1) hj h1
  unfold swI
  rw [List.getD_eq_getElem?_getD, List.getD_eq_getElem?_getD, List.getElem?_eq_getElem hj, List.getElem?_eq_getElem h1]
  exact this
theorem swI_at {L : List Int} {j : Nat} (h0 : 0 < j) (hj : j < L.length) (x : Nat) : (swI L j).getD x 0 = if x = j then L.getD (j - 1) 0 else if x = j - 1 then L.getD j 0 else L.getD x 0 := by
  unfold swI
  simp only [List.getD_eq_getElem?_getD, List.getElem?_set, List.length_set]
  by_cases c1 : x = j
  · subst c1
    rw [if_neg (by omega), if_pos rfl, if_pos (by omega), if_pos rfl]
    rfl
  · by_cases c2 : x = j - 1
    · subst c2
      rw [if_pos rfl, if_pos (by omega), if_neg c1, if_pos rfl]
      rfl
    · rw [if_neg (fun e => c2 e.symm), if_neg (fun e => c1 e.symm), if_neg c1, if_neg c2]
theorem srt_start {L : List Int} {i : Nat} (h : Srt L i) : SrtE L i i := fun x y h1 h2 h3 => h x y h1 (by omega)
theorem srt_swap {L : List Int} {i j : Nat} (h : SrtE L i j) (h0 : 0 < j) (hi : j ≤ i) (hj : j < L.length) (hl : L.getD j 0 < L.getD (j - 1) 0) : SrtE (swI L j) i (j - 1) := by
  intro x y h1 h2 h3
  rw [swI_at h0 hj, swI_at h0 hj]
  have a1 := h x (j - 1)
  have a2 := h (j - 1) y
  have a3 := h j y
  have a4 := h x y
  by_cases c1 : y = j
  · subst c1
    rw [if_pos rfl, if_neg (by omega)]
    by_cases c2 : x = y - 1
    · rw [if_pos c2]; omega
    · rw [if_neg c2]; exact a1 (by omega) (by omega) (by omega)
  · rw [if_neg c1, if_neg h3]
    by_cases c2 : x = j
    · rw [if_pos c2]; exact a2 (by omega) (by omega) c1
    · rw [if_neg c2]
      by_cases c3 : x = j - 1
      · rw [if_pos c3]; exact a3 (by omega) h2 c1
      · rw [if_neg c3]; exact a4 h1 h2 c1
theorem srt_end {L : List Int} {i j : Nat} (h : SrtE L i j) (hi : j ≤ i) (he : j = 0 ∨ L.getD (j - 1) 0 ≤ L.getD j 0) : Srt L (i + 1) := by
  intro x y h1 h2
  by_cases c : y = j
  · subst c
    rcases he with k | k
    · omega
    · by_cases c2 : x = y - 1
      · rw [c2]; exact k
      · have := h x (y - 1) (by omega) (by omega) (by omega)
        omega
  · exact h x y h1 (by omega) c
theorem lessI (x y : Int) (w : World) : Calls Try.prog 128 #[.int .i64 x, .int .i64 y] w fun e w' => e = .returned (.bool (decide (x < y))) ∧ w' = w := by
  cases d1 : decide (x < y)
  · go_enter Try.func128, Try.ntmps128
    go_wp2_with fail
    refine (nanI x _).mono ?_
    rintro e w1 ⟨rfl, rfl⟩
    go_wp2_with fail
    go_ret
    exact ⟨rfl, rfl⟩
  · go_enter Try.func128, Try.ntmps128
    go_wp2_with fail
    refine (nanI x _).mono ?_
    rintro e w1 ⟨rfl, rfl⟩
    go_wp2_with fail
    go_ret
    exact ⟨rfl, rfl⟩
set_option maxHeartbeats 8000000 in
theorem insI11 (B g n c : Nat) (L : List Int) (w : World) (h : RwI B w (.slice (some ⟨g, 0, none⟩) n c) L) (hl : n ≤ 100) :
    Calls Try.prog 122 #[.slice (some ⟨g, 0, none⟩) n c, .int .i64 0, .int .i64 n] w fun e w' => (∃ r, e = .returned r) ∧ (∃ L', RwI B w' (.slice (some ⟨g, 0, none⟩) n c) L' ∧ L'.Perm L ∧ Srt L' n) ∧ w.grownBy w' (some g) := by
  have HW := hide h
  have HN := hide h.len11
  clear h
  go_enter Try.func122, Try.ntmps122
  go_wp2
  go_loopw [6] (fun iv wr => ∃ i : Nat, 1 ≤ i ∧ i ≤ n + 1 ∧ iv = .int .i64 i ∧ (∃ L', Hid (RwI B wr (.slice (some ⟨g, 0, none⟩) n c) L') ∧ Hid (L'.Perm L) ∧ Hid (Srt L' i)) ∧ Hid (w.grownBy wr (some g))) (fun iv _ => n + 1 - (intOf iv).toNat)
  case atStart => exact ⟨1, Nat.le_refl _, by omega, by go_num, ⟨L, HW, hide (List.Perm.refl _), hide (fun x y h1 h2 => by omega)⟩, hide (grown_bel11 (Below.refl _ _) _)⟩
  case round =>
    obtain ⟨i, i1, i2, rfl, ⟨L1, HR, HP, HS⟩, HG⟩ := hrel
    obtain ⟨wp, hwp⟩ : ∃ x, x = wr := ⟨_, rfl⟩
    subst hwp
    by_cases hlt : i < n
    · have hlt' : (i : Int) < (n : Int) := by omega
      go_upto_region 4 with fail
      go_loopw [7] (fun jv wr => ∃ j : Nat, j ≤ i ∧ jv = .int .i64 j ∧ (∃ L', Hid (RwI B wr (.slice (some ⟨g, 0, none⟩) n c) L') ∧ Hid (L'.Perm L) ∧ Hid (SrtE L' i j)) ∧ Hid (w.grownBy wr (some g))) (fun jv _ => (intOf jv).toNat)
      case atStart => exact ⟨i, Nat.le_refl _, rfl, ⟨L1, HR, HP, hide (srt_start (unhide HS))⟩, HG⟩
      case round =>
        obtain ⟨j, hj, rfl, ⟨L2, R2, P2, S2⟩, G2⟩ := hrel
        have N2 := (unhide R2).len11
        by_cases h0 : j = 0
        · subst h0
          have E2 : Hid (Srt L2 (i + 1)) := hide (srt_end (unhide S2) hj (.inl rfl))
          clear S2
          go_upto_region 4 with fail
          go_quiet (fail)
          go_wp2
          go_roundw
          case rel => exact ⟨i + 1, by omega, by omega, by go_num, ⟨L2, hide ((unhide R2).later (below_drewN (Below.refl _ _) _)), P2, E2⟩, hide ((unhide G2).trans (grown_bel11 (below_drewN (Below.refl _ _) _) _))⟩
          case measure => simp [intOf]; omega
        · obtain ⟨m, hm⟩ : ∃ m, j = m + 1 := ⟨j - 1, by omega⟩
          have c0 := (unhide R2).at11 (i := j) (by omega)
          have c1 := (unhide R2).at11 (i := m) (by omega)
          have fr : ∀ o, wr.frozen? ⟨g, o, none⟩ = false := fun o => by have h := (unhide R2).row; rw [N2] at h; exact h.frozenAt o
          have wj : IntKind.i64.wrap ((j : Int) - 1) = (m : Int) := by rw [IntKind.wrap_i64]; omega
          have lj : (j : Int) < (n : Int) := by omega
          have lm : (m : Int) < (n : Int) := by omega
          have pj : (0 : Int) < (j : Int) := by omega
          have nejm : ¬ (j = m) := by omega
          have dj : decide (0 < j) = true := decide_eq_true (by omega)
          have J1 : Hid (j - 1 = m) := hide (by omega)
          have SW : Hid (L2.getD j 0 < L2.getD m 0 → SrtE (swI L2 j) i m) := hide (fun k => by have := srt_swap (unhide S2) (by omega) hj (by omega) (by rw [show j - 1 = m by omega]; exact k); rw [show j - 1 = m by omega] at this; exact this)
          have SE : Hid (¬ L2.getD j 0 < L2.getD m 0 → Srt L2 (i + 1)) := hide (fun k => srt_end (unhide S2) hj (.inr (by rw [show j - 1 = m by omega]; omega)))
          have ES : Hid (swI L2 j = (L2.set j (L2.getD m 0)).set m (L2.getD j 0)) := hide (by unfold swI; rw [show j - 1 = m by omega])
          have PS : Hid ((swI L2 j).Perm L) := hide ((swI_perm (by omega) (by omega)).trans (unhide P2))
          have hmi : m ≤ i := by omega
          have hmj : m < j := by omega
          generalize L2.getD j 0 = x at *
          generalize L2.getD m 0 = y at *
          clear hm S2
          cases d : decide (x < y)
          · have E2 : Hid (Srt L2 (i + 1)) := hide (unhide SE (of_decide_eq_false d))
            clear SE SW ES PS
            go_upto_region 4 with fail
            go_quiet (first | (go_at_call 128; exact Calls.quiet_of_same (lessI x y _)) | fail)
            go_wp2
            go_roundw
            case rel => exact ⟨i + 1, by omega, by omega, by go_num, ⟨L2, hide ((unhide R2).later (below_drewN (Below.refl _ _) _)), P2, E2⟩, hide ((unhide G2).trans (grown_bel11 (below_drewN (Below.refl _ _) _) _))⟩
            case measure => simp [intOf]; omega
          · have E2 : Hid (SrtE (swI L2 j) i m) := hide (unhide SW (of_decide_eq_true d))
            clear SE SW
            go_upto_region 4 with fail
            go_quiet (first | (go_at_call 128; exact Calls.quiet_of_same (lessI x y _)) | fail)
            have R3 := hide ((unhide R2).later (below_drewN (Below.refl _ _) nq))
            have G3 := hide ((unhide G2).trans (grown_bel11 (below_drewN (Below.refl _ _) nq) _))
            have c0' : (wr.drewN nq).cell? ⟨g, j, none⟩ = some (.int .i64 x) := c0
            have c1' : (wr.drewN nq).cell? ⟨g, m, none⟩ = some (.int .i64 y) := c1
            have fr' : ∀ o, (wr.drewN nq).frozen? ⟨g, o, none⟩ = false := fr
            clear R2 G2 c0 c1 fr
            generalize wr.drewN nq = w6 at *
            go_upto_region 6 with fail
            go_region
            have R4 := (unhide R3).put11 j y
            have R5 := R4.put11 m x
            rw [← unhide ES] at R5
            have G4 : w6.grownBy (((w6.setCell ⟨g, j, none⟩ (.int .i64 y)).setCell ⟨g, m, none⟩ (.int .i64 x)).drew) (some g) := (grown_set11.trans grown_set11).trans (grown_bel11 (Below.refl _ _).drew _)
            have R6 := hide (R5.later (Below.refl _ _).drew)
            have G5 := hide ((unhide G3).trans G4)
            clear R3 R4 R5 G3 G4 c0' c1' fr'
            generalize (((w6.setCell ⟨g, j, none⟩ (.int .i64 y)).setCell ⟨g, m, none⟩ (.int .i64 x)).drew) = w7 at *
            go_wp2
            go_roundw
            case rel => exact ⟨m, hmi, by go_num, ⟨_, R6, PS, E2⟩, G5⟩
            case measure => simp [intOf]; omega
    · have nl : ¬ ((i : Int) < (n : Int)) := by omega
      have HS2 : Hid (Srt L1 n) := hide (fun x y h1 h2 => unhide HS x y h1 (by omega))
      go_wp2
      go_end0
      exact ⟨⟨_, rfl⟩, ⟨L1, unhide HR, unhide HP, unhide HS2⟩, unhide HG⟩
end Go.Proofs.Ytblhjeepelgdaaa
namespace Go.Proofs.Ytblhjeepelgdaaa
open Go.RowKit
set_option linter.unusedVariables false
set_option maxRecDepth 100000
set_option linter.unusedSimpArgs false

theorem bitLen_fits11 : ∀ n : Fin 256, n.val < 2 ^ Lib.bitLen n.val ∧ Lib.bitLen n.val ≤ 8 ∧ (1 ≤ n.val → 1 ≤ Lib.bitLen n.val) := by decide +kernel
theorem len8_fits11 (x : Int) (h0 : 0 ≤ x) (h1 : x ≤ 255) : ∃ k : Nat, Lib.len8 x = k ∧ k ≤ 8 ∧ x < 2 ^ k ∧ (1 ≤ x → 1 ≤ k) := by
  obtain ⟨a, b, c⟩ := bitLen_fits11 ⟨x.toNat, by omega⟩
  refine ⟨Lib.bitLen x.toNat, Lib.len8_of x h0 h1, b, ?_, fun h => c (by show 1 ≤ x.toNat; omega)⟩
  have a' : x.toNat < 2 ^ Lib.bitLen x.toNat := a
  have : ((x.toNat : Nat) : Int) < ((2 ^ Lib.bitLen x.toNat : Nat) : Int) := by exact_mod_cast a'
  rw [Int.toNat_of_nonneg h0] at this
  simpa using this

set_option maxRecDepth 100000 in
set_option maxHeartbeats 4000000 in
theorem len64_any11 (x : Int) (w : World) (h0 : 1 ≤ x) (h1 : x ≤ 65535) :
    Calls Try.prog 132 #[.int .u64 x] w fun e w' => ∃ n : Nat, e = .returned (.int .i64 n) ∧ w' = w ∧ 1 ≤ n ∧ n ≤ 16 ∧ x < 2 ^ n := by
  have hu := Try.underlying9
  by_cases h : x < 256
  · have hx0 : 0 ≤ x := by omega
    have hx1 : x ≤ 255 := by omega
    obtain ⟨k, hk, k1, k2, k3⟩ := len8_fits11 x hx0 hx1
    have K2 := hide k2
    have K3 := hide (k3 h0)
    clear k2 k3
    go_enter Try.func132, Try.ntmps132
    go_wp2
    go_ret
    exact ⟨k, by first | rfl | go_num, rfl, unhide K3, by omega, unhide K2⟩
  · have hx0 : 0 ≤ x / 256 := by omega
    have hx1 : x / 256 ≤ 255 := by omega
    obtain ⟨k, hk, k1, k2, k3⟩ := len8_fits11 (x / 256) hx0 hx1
    have K2 := hide k2
    clear k2 k3
    go_enter Try.func132, Try.ntmps132
    go_wp2
    go_ret
    refine ⟨8 + k, by first | rfl | go_num, rfl, by omega, by omega, ?_⟩
    have := unhide K2
    rw [Int.pow_add]
    omega
theorem len_any11 (x : Int) (w : World) (h0 : 1 ≤ x) (h1 : x ≤ 65535) :
    Calls Try.prog 118 #[.int .u64 x] w fun e w' => ∃ n : Nat, e = .returned (.int .i64 n) ∧ w' = w ∧ 1 ≤ n ∧ n ≤ 16 ∧ x < 2 ^ n := by
  go_enter Try.func118, Try.ntmps118
  go_wp2_with fail
  refine (len64_any11 x w h0 h1).mono ?_
  rintro e w1 ⟨n, rfl, rfl, h2, h3, h4⟩
  have H4 := hide h4
  clear h4
  go_wp2
  go_ret
  exact ⟨n, rfl, rfl, h2, h3, unhide H4⟩
end Go.Proofs.Ytblhjeepelgdaaa
namespace Go.Proofs.Ytblhjeepelgdaaa
open Go.RowKit
set_option linter.unusedVariables false
set_option maxRecDepth 100000
set_option linter.unusedSimpArgs false

set_option maxHeartbeats 4000000 in
theorem pdqI11 (B g n c : Nat) (L : List Int) (k : Int) (w : World) (h : RwI B w (.slice (some ⟨g, 0, none⟩) n c) L) (hl : n ≤ 12) :
    Calls Try.prog 117 #[.slice (some ⟨g, 0, none⟩) n c, .int .i64 0, .int .i64 n, .int .i64 k] w fun e w' => (∃ r, e = .returned r) ∧ (∃ L', RwI B w' (.slice (some ⟨g, 0, none⟩) n c) L' ∧ L'.Perm L ∧ Srt L' n) ∧ w.grownBy w' (some g) := by
  have C := hide (insI11 B g n c L w h (by omega))
  have e0 : IntKind.i64.wrap ((n : Int) - 0) = (n : Int) := by rw [IntKind.wrap_i64]; omega
  have l12 : (n : Int) ≤ 12 := by omega
  clear h
  go_enter Try.func117, Try.ntmps117
  go_wp2
  refine wp_loop_rounds 1 ?_
  rw [rounds_succ]
  go_wp2_with fail
  refine (unhide C).mono ?_
  rintro e w1 ⟨⟨r, rfl⟩, h2, h3⟩
  have H2 := hide h2
  have H3 := hide h3
  clear h2 h3 C
  go_wp2
  (try simp only [Exit.inBlock, Exit.then]); refine bodyPost_ret (results_none rfl _ _ _) rfl ?_
  exact ⟨⟨_, rfl⟩, unhide H2, unhide H3⟩
set_option maxHeartbeats 4000000 in
theorem sortI11 (B g n c : Nat) (L : List Int) (w : World) (h : RwI B w (.slice (some ⟨g, 0, none⟩) n c) L) (h1 : 1 ≤ n) (hl : n ≤ 12) :
    Calls Try.prog 110 #[.slice (some ⟨g, 0, none⟩) n c] w fun e w' => (∃ r, e = .returned r) ∧ (∃ L', RwI B w' (.slice (some ⟨g, 0, none⟩) n c) L' ∧ L'.Perm L ∧ Srt L' n) ∧ w.grownBy w' (some g) := by
  have C := hide (fun k => pdqI11 B g n c L k w h hl)
  have n1 : (1 : Int) ≤ (n : Int) := by omega
  have n2 : (n : Int) ≤ 65535 := by omega
  have wu : IntKind.u64.wrap (n : Int) = (n : Int) := by rw [IntKind.wrap_u64]; omega
  clear h
  go_enter Try.func110, Try.ntmps110
  go_wp2_with fail
  refine (len_any11 (n : Int) _ n1 n2).mono ?_
  rintro e w1 ⟨m, rfl, rfl, _, _, _⟩
  go_wp2_with fail
  refine (unhide C _).mono ?_
  rintro e w2 ⟨⟨r, rfl⟩, h2, h3⟩
  have H2 := hide h2
  have H3 := hide h3
  clear h2 h3 C
  go_wp2
  go_end0
  exact ⟨⟨_, rfl⟩, unhide H2, unhide H3⟩
end Go.Proofs.Ytblhjeepelgdaaa
namespace Go.Proofs.Ytblhjeepelgdaaa
open Go.RowKit Go.ChangeMaps
set_option linter.unusedVariables false
set_option maxRecDepth 100000
set_option linter.unusedSimpArgs false

def ptV (p : Int × Int) : Value := .agg #[.int .i64 p.1, .int .i64 p.2]
/-- The entries of these corners. -/
def mpL (l : List (Int × Int)) (L : List Nat) : List MapEntry := L.map (fun k : Nat => ⟨.int .i64 (k : Int), ptV (l.getD k (0, 0)), k⟩)
theorem keyedI : Maps.Keyed Try.prog 3 := Maps.int_keyed Try.underlying3
theorem keyI {k : Nat} (h : k ≤ 1000) : keyOf Try.prog 3 (.int .i64 (k : Int)) = some (.int .i64 (k : Int)) := by
  have w1 : (Lit.int .i64 (k : Int)).wf = true := WalkArith.wf_i64 (by omega)
  simp [keyOf, Try.underlying3, mapKey, w1]
theorem mpL_keys {l : List (Int × Int)} {L : List Nat} (h : ∀ k ∈ L, k ≤ 1000) : ∀ e ∈ mpL l L, ∃ x, keyOf Try.prog 3 e.key = some x := by
  intro e he
  obtain ⟨k, hk, rfl⟩ := List.mem_map.1 he
  exact ⟨_, keyI (h k hk)⟩
theorem mpL_key {l : List (Int × Int)} {L : List Nat} {j k : Nat} {e : MapEntry} (h : (mpL l L)[j]? = some e) (hk : e.key = .int .i64 (k : Int)) : L[j]? = some k ∧ e = ⟨.int .i64 (k : Int), ptV (l.getD k (0, 0)), k⟩ := by
  unfold mpL at h
  rw [List.getElem?_map] at h
  cases h1 : L[j]? with
  | none => rw [h1] at h; cases h
  | some x =>
    rw [h1] at h
    simp only [Option.map_some, Option.some.injEq] at h
    subst h
    simp only [Value.int.injEq, true_and] at hk
    have : x = k := by omega
    subst this
    exact ⟨rfl, rfl⟩
theorem look11 {w : World} {B clock : Nat} {l : List (Int × Int)} {L : List Nat} {k : Nat} (hb : w.heap[B]? = some (.map (mpL l L).toArray clock)) (h : ∀ k ∈ L, k ≤ 1000) (hk : k ∈ L) :
    (Instr.lookup 81 (.map (some B)) (.int .i64 (k : Int)) false).run Try.prog w = .ok (ptV (l.getD k (0, 0))) w := by
  have hkey := keyI (h k hk)
  rcases keyedI.find w hkey (mpL l L) (mpL_keys h) with ⟨h1, h2⟩ | ⟨j, e0, h1, h2, h3⟩
  · exact absurd rfl (h2 ⟨.int .i64 (k : Int), ptV (l.getD k (0, 0)), k⟩ (List.mem_map.2 ⟨k, hk, rfl⟩))
  · obtain ⟨_, rfl⟩ := mpL_key h2 h3
    simp [Instr.lookup, run_underlying Try.underlying81, MapKept.run_getObj_map hb, keyedI.check w _ hkey, h1, Result.andThen]
theorem upd11 {w : World} {B clock : Nat} {l : List (Int × Int)} {L : List Nat} {k : Nat} {v : Value} (hb : w.heap[B]? = some (.map (mpL l L).toArray clock)) (h : ∀ k ∈ L, k ≤ 1000) (h1 : k ≤ 1000) (hk : k ∉ L) :
    (Instr.mapUpdate 81 (.map (some B)) (.int .i64 (k : Int)) v).run Try.prog w = .ok () (setBlock w B (.map ((mpL l L).toArray.push ⟨.int .i64 (k : Int), v, clock⟩) (clock + 1))) := by
  have hkey := keyI h1
  rcases keyedI.find w hkey (mpL l L) (mpL_keys h) with ⟨h1, h2⟩ | ⟨j, e0, h1, h2, h3⟩
  · simp [Instr.mapUpdate, run_underlying Try.underlying81, MapKept.run_getObj_map hb, keyedI.check w _ hkey, h1, MapKept.run_setObj_map _ hb, Result.andThen, setBlock]
  · obtain ⟨h4, _⟩ := mpL_key h2 h3
    exact absurd (List.mem_of_getElem? h4) hk
theorem er_map (f : Nat → MapEntry) : ∀ (L : List Nat) (j : Nat), (L.map f).eraseIdx j = (L.eraseIdx j).map f
  | [], j => by simp
  | a :: L, 0 => by simp
  | a :: L, j + 1 => by simp [er_map f L j]
theorem del11 {w : World} {B clock : Nat} {l : List (Int × Int)} {L : List Nat} {k : Nat} (hb : w.heap[B]? = some (.map (mpL l L).toArray clock)) (h : ∀ k ∈ L, k ≤ 1000) (hk : k ∈ L) :
    ∃ j, L[j]? = some k ∧ ∀ ty, (Builtin.delete_ #[81, 3] ty #[.map (some B), .int .i64 (k : Int)]).run Try.prog w = .ok (.tuple #[]) (setBlock w B (.map (mpL l (L.eraseIdx j)).toArray clock)) := by
  have hkey := keyI (h k hk)
  rcases keyedI.find w hkey (mpL l L) (mpL_keys h) with ⟨h1, h2⟩ | ⟨j, e0, h1, h2, h3⟩
  · exact absurd rfl (h2 ⟨.int .i64 (k : Int), ptV (l.getD k (0, 0)), k⟩ (List.mem_map.2 ⟨k, hk, rfl⟩))
  · obtain ⟨h4, _⟩ := mpL_key h2 h3
    refine ⟨j, h4, fun ty => ?_⟩
    have e1 : (mpL l L).eraseIdx j = mpL l (L.eraseIdx j) := er_map _ L j
    simp [Builtin.delete_, run_underlying Try.underlying81, MapKept.run_getObj_map hb, keyedI.check w _ hkey, h1, e1, MapKept.run_setObj_map _ hb, Result.andThen, setBlock]
theorem make11 (n : Int) (w : World) : (Instr.makeMap 81 (some (.int .i64 n))).run Try.prog w = .ok (.map (some w.heap.size)) (w.alloc (.map #[] 0)) := by
  have h := run_makeMap (P := Try.prog) 81 w
  simp only [Instr.makeMap] at h ⊢
  simp [run_underlying Try.underlying81, asInt, asIntOf, Result.andThen] at h ⊢
  try exact h
theorem set_at11 {w : World} {B clock : Nat} {es : Array MapEntry} (hb : w.heap[B]? = some (.map es clock)) (o : Obj) : (setBlock w B o).heap[B]? = some o := by
  have := (Array.getElem?_eq_some_iff.1 hb).1
  simp [setBlock, this]
theorem set_but11 {w : World} {B : Nat} (o : Obj) : But B (B + 1) w (setBlock w B o) := by
  refine ⟨rfl, rfl, rfl, by simp [setBlock], fun k hk hj => ?_⟩
  simp only [setBlock]
  rw [Array.getElem?_setIfInBounds]
  rw [if_neg (by omega)]
theorem mpL_snoc (l : List (Int × Int)) (L : List Nat) (k : Nat) : (mpL l L).toArray.push ⟨.int .i64 (k : Int), ptV (l.getD k (0, 0)), k⟩ = (mpL l (L ++ [k])).toArray := by
  apply Array.ext'
  simp [mpL]
end Go.Proofs.Ytblhjeepelgdaaa
namespace Go.Proofs.Ytblhjeepelgdaaa
open Go.RowKit Go.ChangeMaps
set_option linter.unusedVariables false
set_option maxRecDepth 100000
set_option linter.unusedSimpArgs false

theorem new_map0 (w : World) (l : List (Int × Int)) : (w.alloc (.map #[] 0)).heap[w.heap.size]? = some (.map (mpL l (List.range 0)).toArray 0) := by
  have : (w.alloc (.map #[] 0)).heap = w.heap.push (.map #[] 0) := rfl
  rw [this, Array.getElem?_push_size]
  rfl
set_option maxHeartbeats 4000000 in
theorem leftI (a : Option Addr) (n c : Nat) (l : List (Int × Int)) (w : World) (h : SlP w a l) (hn : l.length = n) (h0 : 0 < n) (h12 : n ≤ 12) :
    Calls Try.prog 66 #[.slice a n c] w fun e w' => e = .returned (.map (some w.heap.size)) ∧ w'.heap[w.heap.size]? = some (.map (mpL l (List.range n)).toArray n) ∧ Below w.heap.size w w' := by
  rcases h with e | ⟨q, off, rfl, hq, hc⟩
  · subst e; simp at hn; omega
  have HC : Hid (∀ k, k < n → w.cell? ⟨q, off + k * 2, none⟩ = some (.int .i64 (l.getD k (0, 0)).1) ∧ w.cell? ⟨q, off + k * 2 + 1, none⟩ = some (.int .i64 (l.getD k (0, 0)).2)) := hide (fun k hk => by
    have := hc k (by omega)
    rw [List.getD_eq_getElem?_getD, List.getElem?_eq_getElem (by omega)]
    exact this)
  have mk := make11 (n : Int)
  clear hc hn
  go_enter Try.func66, Try.ntmps66
  go_wp2
  go_loopw [11] (fun iv wr => ∃ i : Nat, i ≤ n ∧ iv = .int .i64 i ∧ Hid (wr.heap[w.heap.size]? = some (.map (mpL l (List.range i)).toArray i)) ∧ Hid (Below w.heap.size w wr)) (fun iv _ => n - (intOf iv).toNat)
  case atStart => exact ⟨0, Nat.zero_le _, rfl, hide (new_map0 w l), hide ((Below.refl _ _).alloc (Nat.le_refl _) _)⟩
  case round =>
    obtain ⟨i, hi, rfl, HM, HB⟩ := hrel
    by_cases hlt : i < n
    · have hlt' : (i : Int) < (n : Int) := by omega
      have c0 := ((unhide HB).cell (p := ⟨q, off + i * 2, none⟩) hq).trans (unhide HC i hlt).1
      have c1 := ((unhide HB).cell (p := ⟨q, off + i * 2 + 1, none⟩) hq).trans (unhide HC i hlt).2
      have SZ := (unhide HB).size
      have lt : w.heap.size < wr.heap.size := (Array.getElem?_eq_some_iff.1 (unhide HM)).1
      have NX := hide (mpL_snoc l (List.range i) i)
      generalize l.getD i (0, 0) = p at *
      have hb1 : (wr.alloc (.cells #[.int .i64 p.1, .int .i64 p.2] 59)).heap[w.heap.size]? = some (.map (mpL l (List.range i)).toArray i) := (((Below.refl wr.heap.size wr).alloc (Nat.le_refl _) _).block _ lt).trans (unhide HM)
      have hup := upd11 (v := .agg #[.int .i64 p.1, .int .i64 p.2]) (k := i) hb1 (fun k hk => by have := List.mem_range.1 hk; omega) (by omega) (by simp)
      have N1 := hide (set_at11 hb1 (.map ((mpL l (List.range i)).toArray.push ⟨.int .i64 (i : Int), .agg #[.int .i64 p.1, .int .i64 p.2], i⟩) (i + 1)))
      have N2 := hide ((set_but11 (w := wr.alloc (.cells #[.int .i64 p.1, .int .i64 p.2] 59)) (B := w.heap.size) (.map ((mpL l (List.range i)).toArray.push ⟨.int .i64 (i : Int), .agg #[.int .i64 p.1, .int .i64 p.2], i⟩) (i + 1))).below ((unhide HB).alloc SZ _) (Nat.le_refl _) (by simp; omega))
      have NX2 : Hid ((mpL l (List.range i)).toArray.push ⟨.int .i64 (i : Int), .agg #[.int .i64 p.1, .int .i64 p.2], i⟩ = (mpL l (List.range (i + 1))).toArray) := hide (by rw [List.range_succ]; exact unhide NX)
      rw [unhide NX2] at N1 N2 hup
      clear hb1 NX NX2 HM HB
      generalize (setBlock (wr.alloc (.cells #[.int .i64 p.1, .int .i64 p.2] 59)) w.heap.size (.map (mpL l (List.range (i + 1))).toArray (i + 1))) = w4 at *
      go_wp2
      go_roundw
      case rel => exact ⟨i + 1, by omega, by go_num, N1, N2⟩
      case measure => simp [intOf]; omega
    · obtain rfl : i = n := by omega
      go_wp2
      go_ret
      exact ⟨rfl, unhide HM, unhide HB⟩
end Go.Proofs.Ytblhjeepelgdaaa
namespace Go.Proofs.Ytblhjeepelgdaaa
open Go.RowKit Go.ChangeMaps
set_option linter.unusedVariables false
set_option maxRecDepth 100000
set_option linter.unusedSimpArgs false

/-- The same world, or with one draw more. -/
def Drawn (w w1 : World) : Prop := w1 = w ∨ w1 = w.drew
def LeftE (es : Array MapEntry) (seen : Array Nat) (e : MapEntry) : Prop := e ∈ (leftOf es seen).toList
def NoneE (es : Array MapEntry) (seen : Array Nat) : Prop := (leftOf es seen).size = 0
theorem wpList_next11 {P : Program} (w : World) {ops : Array Oper} {rest : List Oper} {o : Oper} {a : Act} {Q : Exit → Act → World → Prop} (hg : o.guard = none) (it : Operand) (hop : o.op = Op.next it false) (r bm since c0 : Nat) (seen : Array Nat) (es : Array MapEntry) (clock : Nat)
    (hit : a.eval it = .pointer (some ⟨r, 0, none⟩)) (hr : w.heap[r]? = some (.mapIter (some bm) since seen c0)) (hb : w.heap[bm]? = some (.map es clock)) (hold : ∀ x ∈ es.toList, x.born < since) (hsc : since ≤ c0)
    (hDone : NoneE es seen → wpList P ops Q rest (a.put o.dst (.tuple #[.bool false])) w)
    (hMore : ∀ e, LeftE es seen e → ∀ w1 : World, Drawn w w1 → wpList P ops Q rest (a.put o.dst (.tuple #[.bool true, e.key, e.val])) (setBlock w1 r (.mapIter (some bm) since (seen.push e.born) clock))) :
    wpList P ops Q (o :: rest) a w := by
  refine wpList_plain hg fun K' hK' => ?_
  unfold Oper.wp
  rcases run_next_at (P := P) w o.type r bm since c0 seen es clock hr hb hold hsc with ⟨h0, hrun⟩ | ⟨e, he, w1, hw1, hrun⟩
  · simp [execOp, hop, hit, hrun, Result.andThen]
    exact hK' _ _ (hDone h0)
  · simp [execOp, hop, hit, hrun, Result.andThen]
    exact hK' _ _ (hMore e he w1 hw1)
theorem made0 (w : World) (n : Nat) (hm : n ≤ maxLen) : (w.alloc (.cells (madeCells #[.int .i64 0] n) 3)).ownsRow w.heap.size 3 1 (.slice (some ⟨w.heap.size, 0, none⟩) 0 n) 0 ((cI []).map (Value.int .i64)) := by
  refine ⟨by simp [cI], .inr ⟨w.heap.size, n, madeCells #[.int .i64 0] n, rfl, Nat.le_refl _, ?_, by omega, hm, by simp [size_madeCells], by simp [cI]⟩⟩
  show (w.heap.push _)[w.heap.size]? = _
  simp
theorem lenM11 {w : World} {B clock : Nat} {es : Array MapEntry} {ty : TypeId} (hb : w.heap[B]? = some (.map es clock)) : (Builtin.len_ #[81] ty #[.map (some B)]).run Try.prog w = .ok (.int .i64 es.size) w := by
  simp [Builtin.len_, run_underlying Try.underlying81, MapKept.run_getObj_map hb, goInt]
theorem cI_snoc (M : List Nat) (k : Nat) : cI (M ++ [k]) = cI M ++ [(k : Int)] := by simp [cI]
/-- What rises and has these members is this list. -/
theorem srt_eq {L M : List Nat} {L' : List Int} (hL : L.Pairwise (· < ·)) (hM : M.Nodup) (hs : ∀ k, k ∈ M ↔ k ∈ L) (hp : L'.Perm (cI M)) (hr : Srt L' L'.length) : L' = cI L := by
  have nd : L.Nodup := hL.imp (fun h => by omega)
  have p1 : M.Perm L := (List.perm_ext_iff_of_nodup hM nd).2 hs
  have p2 : L'.Perm (cI L) := hp.trans (p1.map _)
  refine List.Perm.eq_of_pairwise (le := (· ≤ ·)) (fun a b _ _ h1 h2 => by omega) ?_ ?_ p2
  · refine List.pairwise_iff_getElem.2 (fun i j hi hj hij => ?_)
    have := hr i j hij hj
    rw [List.getD_eq_getElem?_getD, List.getD_eq_getElem?_getD, List.getElem?_eq_getElem hi, List.getElem?_eq_getElem hj] at this
    exact this
  · unfold cI
    exact List.pairwise_map.2 (hL.imp (fun h => by omega))
theorem subl11 {M L : List Nat} (hM : M.Nodup) (hL : L.Nodup) (hs : ∀ k ∈ M, k ∈ L) : M.length ≤ L.length := by
  have p : M.Perm (L.filter (fun k => decide (k ∈ M))) := (List.perm_ext_iff_of_nodup hM (hL.filter _)).2 (fun k => by simp; exact fun h => hs k h)
  rw [p.length_eq]
  exact List.length_filter_le _ _
theorem left_e {l : List (Int × Int)} {L M : List Nat} {e : MapEntry} (h : LeftE (mpL l L).toArray M.toArray e) : ∃ k ∈ L, k ∉ M ∧ e = ⟨.int .i64 (k : Int), ptV (l.getD k (0, 0)), k⟩ := by
  unfold LeftE leftOf at h
  simp at h
  obtain ⟨k, hk, rfl⟩ := List.mem_map.1 h.1
  exact ⟨k, hk, h.2, rfl⟩
theorem Drawn.heap {w w1 : World} (h : Drawn w w1) : w1.heap = w.heap := by rcases h with rfl | rfl <;> rfl
theorem Drawn.below {w w1 : World} {B : Nat} {a : World} (h : Drawn w w1) (hb : Below B a w) : Below B a w1 := by
  rcases h with rfl | rfl
  · exact hb
  · exact hb.drew
def lenV : Value → Nat
  | .slice _ n _ => n
  | _ => 0
set_option maxHeartbeats 8000000 in
theorem orderI (B clock : Nat) (l : List (Int × Int)) (L : List Nat) (w : World) (hm : w.heap[B]? = some (.map (mpL l L).toArray clock)) (hL : L.Pairwise (· < ·)) (hc : ∀ k ∈ L, k < clock) (h1 : 1 ≤ L.length) (h12 : L.length ≤ 12) :
    Calls Try.prog 89 #[.map (some B)] w fun e w' => ∃ v, e = .returned v ∧ Below w.heap.size w w' ∧ RwI w.heap.size w' v (cI L) := by
  obtain ⟨i0, hi, hz0, hz1, hz2⟩ := info_parts Try.info3
  obtain ⟨n, hn⟩ : ∃ n, n = L.length := ⟨_, rfl⟩
  have hBl := (Array.getElem?_eq_some_iff.1 hm).1
  have hlen : ∀ ty, (Builtin.len_ #[81] ty #[.map (some B)]).run Try.prog w = .ok (.int .i64 (n : Int)) w := fun ty => by
    have := lenM11 (ty := ty) hm
    simpa [mpL, hn] using this
  have hmk : (Instr.makeSlice 25 (.int .i64 0) (.int .i64 (n : Int))).run Try.prog w = .ok (.slice (some ⟨w.heap.size, 0, none⟩) 0 n) (w.alloc (.cells (madeCells #[.int .i64 0] n) 3)) := by
    have := run_make (P := Try.prog) w 25 3 i0 (.int .i64 0) Try.underlying25 hi hz0 .i64 .i64 0 (n : Int) (by omega) (by omega) (by rw [hz2]; omega) (by omega)
    rw [this, hz1]
    simp [Value.cells]
  have OW := hide (made0 w n (by unfold maxLen; omega))
  have hm1 : (w.alloc (.cells (madeCells #[.int .i64 0] n) 3)).heap[B]? = some (.map (mpL l L).toArray clock) := (((Below.refl w.heap.size w).alloc (Nat.le_refl _) _).block _ hBl).trans hm
  have HB1 := hide ((Below.refl w.heap.size w).alloc (Nat.le_refl _) (.cells (madeCells #[.int .i64 0] n) 3))
  obtain ⟨w1, hw1⟩ : ∃ w1, w1 = w.alloc (.cells (madeCells #[.int .i64 0] n) 3) := ⟨_, rfl⟩
  have sz1 : w1.heap.size = w.heap.size + 1 := by rw [hw1]; simp
  rw [← hw1] at hmk OW hm1 HB1
  have hrg := run_range_map (P := Try.prog) w1 81 _ _ B (mpL l L).toArray clock Try.underlying81 hm1
  obtain ⟨w2, hw2⟩ : ∃ w2, w2 = w1.alloc (.mapIter (some B) clock #[] clock) := ⟨_, rfl⟩
  obtain ⟨r, hr⟩ : ∃ r, r = w1.heap.size := ⟨_, rfl⟩
  have it2 : w2.heap[r]? = some (.mapIter (some B) clock #[] clock) := by
    rw [hw2, hr]
    show (w1.heap.push _)[w1.heap.size]? = _
    simp
  have bl2 : Below w1.heap.size w1 w2 := by rw [hw2]; exact (Below.refl _ _).alloc (Nat.le_refl _) _
  rw [← hw2, ← hr] at hrg
  have HI2 := hide it2
  have HB2 := hide (below_on (unhide HB1) bl2)
  have HO2 : Hid (RwI w.heap.size w2 (.slice (some ⟨w.heap.size, 0, none⟩) 0 n) (cI [])) := hide ⟨owns_laterR (unhide OW) bl2⟩
  have RL : Hid (r = w.heap.size + 1) := hide (by omega)
  clear hw2 hr bl2 hw1 hm1 OW HB1 it2
  have KX : Hid (∀ k ∈ L, k < clock) := hide hc
  have PL := hide hL
  have HM := hide hm
  have LL : Hid (L.length = n) := hide hn.symm
  clear hc hL hm sz1
  have h1' : 1 ≤ n := by omega
  have h12' : n ≤ 12 := by omega
  clear h1 h12 hn
  go_enter Try.func89, Try.ntmps89
  go_wp2
  go_loopw [3] (fun v wr => ∃ M : List Nat, Hid (M.Nodup) ∧ Hid (∀ k ∈ M, k ∈ L) ∧ v = .slice (some ⟨w.heap.size, 0, none⟩) M.length n ∧ Hid (RwI w.heap.size wr (.slice (some ⟨w.heap.size, 0, none⟩) M.length n) (cI M)) ∧ Hid (wr.heap[r]? = some (.mapIter (some B) clock M.toArray clock)) ∧ Hid (Below w.heap.size w wr)) (fun v _ => n - lenV v)
  case atStart => exact ⟨[], hide List.nodup_nil, hide (fun k hk => by simp at hk), rfl, HO2, HI2, HB2⟩
  case round =>
    obtain ⟨M, MN, ML, rfl, HR, HI, HB⟩ := hrel
    have hmr : wr.heap[B]? = some (.map (mpL l L).toArray clock) := ((unhide HB).block _ hBl).trans (unhide HM)
    have hml := (unhide HR).len11
    go_wp2_with (at_next; refine wpList_next11 _ rfl (.tmp 9) rfl r B clock clock M.toArray (mpL l L).toArray clock rfl (unhide HI) hmr (fun x hx => by obtain ⟨k, hk, rfl⟩ := List.mem_map.1 (show x ∈ mpL l L by simpa using hx); exact unhide KX k hk) (Nat.le_refl _) ?_ ?_)
    · intro hz
      have all : Hid (∀ k, k ∈ M ↔ k ∈ L) := hide (fun k => ⟨fun h => unhide ML k h, fun h => by
        false_or_by_contra
        rename_i hn
        have : (⟨.int .i64 (k : Int), ptV (l.getD k (0, 0)), k⟩ : MapEntry) ∈ (leftOf (mpL l L).toArray M.toArray).toList := by
          unfold leftOf
          simp
          exact ⟨List.mem_map.2 ⟨k, h, rfl⟩, hn⟩
        rw [Array.eq_empty_of_size_eq_zero (show (leftOf (mpL l L).toArray M.toArray).size = 0 from hz)] at this
        simp at this⟩)
      have ml : Hid (M.length = n) := hide (by
        have nd : L.Nodup := (unhide PL).imp (fun h => by omega)
        have := ((List.perm_ext_iff_of_nodup (unhide MN) nd).2 (unhide all)).length_eq
        rw [this]; exact unhide LL)
      clear hz hmr
      go_wp2_with fail
      refine (sortI11 w.heap.size w.heap.size M.length n (cI M) wr (unhide HR) (by have := unhide ml; omega) (by have := unhide ml; omega)).mono ?_
      rintro e w3 ⟨⟨x, rfl⟩, ⟨L', R', P', S'⟩, gr⟩
      have EL : L' = cI L := srt_eq (unhide PL) (unhide MN) (unhide all) P' (by rw [R'.len11]; exact S')
      rw [EL] at R'
      have R1 := hide R'
      have B1 := hide ((unhide HB).grown gr (unhide HB).size (fun k hk => by simp at hk; omega))
      clear R' P' S' EL gr HR HB
      go_wp2
      go_ret
      exact ⟨_, rfl, unhide B1, unhide R1⟩
    · intro e he w3 hw3
      obtain ⟨k, kL, kM, rfl⟩ := left_e he
      have nd : L.Nodup := (unhide PL).imp (fun h => by omega)
      have MN2 : (M ++ [k]).Nodup := by rw [List.nodup_append]; exact ⟨unhide MN, by simp, fun a ha b hb => by simp at hb; subst hb; intro e; subst e; exact kM ha⟩
      have ML2 : ∀ x ∈ M ++ [k], x ∈ L := fun x hx => by
        rcases List.mem_append.1 hx with h | h
        · exact unhide ML x h
        · simp at h; rw [h]; exact kL
      have lt : M.length + 1 ≤ n := by have := subl11 MN2 nd ML2; rw [unhide LL] at this; simpa using this
      have r0 := unhide RL
      have i3 : w3.heap[r]? = some (.mapIter (some B) clock M.toArray clock) := by rw [hw3.heap]; exact unhide HI
      have m3 : w3.heap[B]? = some (.map (mpL l L).toArray clock) := by rw [hw3.heap]; exact hmr
      have b3 : Below w.heap.size w w3 := hw3.below (unhide HB)
      have o3 : RwI w.heap.size w3 (.slice (some ⟨w.heap.size, 0, none⟩) M.length n) (cI M) := (unhide HR).later (hw3.below (Below.refl _ _))
      have bt : But r (r + 1) w3 (setBlock w3 r (.mapIter (some B) clock (M ++ [k]).toArray clock)) := set_but11 _
      have rl3 := (Array.getElem?_eq_some_iff.1 i3).1
      have i4 : (setBlock w3 r (.mapIter (some B) clock (M ++ [k]).toArray clock)).heap[r]? = some (.mapIter (some B) clock (M ++ [k]).toArray clock) := by simp [setBlock, rl3]
      have m4 : (setBlock w3 r (.mapIter (some B) clock (M ++ [k]).toArray clock)).heap[B]? = some (.map (mpL l L).toArray clock) := (bt.block B (by omega) (.inl (by omega))).trans m3
      have b4 : Below w.heap.size w (setBlock w3 r (.mapIter (some B) clock (M ++ [k]).toArray clock)) := bt.below b3 (by omega) b3.size
      have o4 : RwI w.heap.size (setBlock w3 r (.mapIter (some B) clock (M ++ [k]).toArray clock)) (.slice (some ⟨w.heap.size, 0, none⟩) M.length n) (cI M) := by
        refine ⟨o3.row.1, ?_⟩
        rcases o3.row.2 with h' | ⟨g', cap, cur, hv, h1, hg, rr⟩
        · exact .inl h'
        · have hg' : g' = w.heap.size := by
            have h2 := hv
            simp only [Value.slice.injEq, Option.some.injEq, Addr.mk.injEq] at h2
            exact h2.1.1.symm
          refine .inr ⟨g', cap, cur, hv, h1, ?_, rr⟩
          rw [bt.block g' (Array.getElem?_eq_some_iff.1 hg).1 (.inl (by omega))]
          exact hg
      have nb : ((mpL l L).toArray.toList.map (·.born)).Nodup := by
        have e1 : (mpL l L).map (·.born) = L := by simp [mpL, Function.comp_def]
        simpa [e1] using nd
      have hen := run_entry_at (P := Try.prog) _ r B clock M.toArray (mpL l L).toArray clock ⟨.int .i64 (k : Int), ptV (l.getD k (0, 0)), k⟩ (by rw [i4]; simp) m4 (show _ ∈ (mpL l L).toArray.toList from List.mem_map.2 ⟨k, kL, rfl⟩) nb
      have I4 := hide i4
      have B4 := hide b4
      have O4 := hide o4
      have MN' := hide MN2
      have ML' := hide ML2
      have cs : Hid (cI (M ++ [k]) = cI M ++ [(k : Int)]) := hide (cI_snoc M k)
      clear nb i3 m3 b3 o3 bt rl3 i4 m4 b4 o4 hmr he MN2 ML2 nd kM kL hw3 HI HB HR r0
      generalize (setBlock w3 r (.mapIter (some B) clock (M ++ [k]).toArray clock)) = w4 at *
      generalize ptV (l.getD k (0, 0)) = pv at *
      go_wp2_with (at_builtin; refine wpList_append_fits_any _ rfl (.tmp 14) (.tmp 16) 25 rfl w.heap.size 3 i0 1 Try.underlying25 hi hz1 w.heap.size M.length n _ rfl ((show w4.ownsRow w.heap.size 3 1 (.slice (some ⟨w.heap.size, 0, none⟩) M.length n) M.length _ by have := (unhide O4).row; rw [cI_len] at this; exact this).alloc _) (some ⟨_, 0, none⟩) 1 1 [.int .i64 (k : Int)] rfl rfl (by intro e; cases e) (by intro ad e j u hj; cases e; exact new_cellI _ _ j u hj) (fun u hu => by simp at hu; subst hu; rfl) lt ?_)
      intro w6 hown hgr
      have RN : Hid (RwI w.heap.size w6 (.slice (some ⟨w.heap.size, 0, none⟩) (M ++ [k]).length n) (cI (M ++ [k]))) := hide ⟨by rw [cI_len, unhide cs, List.map_append, List.length_append]; exact hown⟩
      have IN : Hid (w6.heap[r]? = some (.mapIter (some B) clock (M ++ [k]).toArray clock)) := hide (by
        have r1 := (Array.getElem?_eq_some_iff.1 (unhide I4)).1
        have ha : (w4.alloc (.cells #[.int .i64 (k : Int)] 3)).heap[r]? = w4.heap[r]? := ((Below.refl w4.heap.size w4).alloc (Nat.le_refl _) _).block _ r1
        rw [hgr.block r (by simp; omega) (by have := unhide RL; simp; omega), ha]
        exact unhide I4)
      have BN := hide (((unhide B4).alloc (unhide B4).size _).grown hgr (by have := (unhide B4).size; simp; omega) (fun j hj => by simp at hj; omega))
      have lm : (M ++ [k]).length = M.length + 1 := by simp
      rw [lm] at RN
      clear hown hgr I4 B4 O4
      go_wp2
      go_roundw
      case rel => exact ⟨M ++ [k], MN', ML', by rw [lm], by rw [lm]; exact RN, IN, BN⟩
      case measure => simp [lenV]; omega
end Go.Proofs.Ytblhjeepelgdaaa

/- slices.Sort over a row of integers of one's own, of twelve at most. No condition beyond those typed. -/
import Derived.Test.YtcgbpcipdanfhaaDoorRt11
import Derived.Test.YtcgbpcipdanfhaaDoorIm8
import Derived.Deep.RegionHeld3
import Derived.BigQuiet
import Derived.Maps.AppendAt
namespace Go.Proofs.YtcgbpcipdanfhaaDoor
open Go.RowKit
set_option linter.unusedVariables false
set_option maxRecDepth 100000
set_option linter.unusedSimpArgs false

theorem RwI.at11 {B g n c : Nat} {w : World} {L : List Int} (h : RwI B w (.slice (some ⟨g, 0, none⟩) n c) L) {i : Nat} (hi : i < L.length) : w.cell? ⟨g, i, none⟩ = some (.int .i64 (L.getD i 0)) := by
  rcases h.open with ⟨e, _⟩ | ⟨g', c', e, _, _, _, _, hc⟩
  · cases e
  · simp only [Value.slice.injEq, Option.some.injEq, Addr.mk.injEq] at e
    obtain ⟨⟨rfl, _⟩, _, _⟩ := e
    rw [hc i hi, List.getD_eq_getElem?_getD, List.getElem?_eq_getElem hi]
    rfl
theorem RwI.len11 {B g n c : Nat} {w : World} {L : List Int} (h : RwI B w (.slice (some ⟨g, 0, none⟩) n c) L) : L.length = n := by
  rcases h.open with ⟨e, _⟩ | ⟨g', c', e, _⟩
  · cases e
  · simp only [Value.slice.injEq] at e
    exact e.2.1.symm
theorem RwI.put11 {B g n c : Nat} {w : World} {L : List Int} (h : RwI B w (.slice (some ⟨g, 0, none⟩) n c) L) (k : Nat) (x : Int) : RwI B (w.setCell ⟨g, k, none⟩ (.int .i64 x)) (.slice (some ⟨g, 0, none⟩) n c) (L.set k x) := by
  refine ⟨?_⟩
  rw [List.length_set, List.map_set]
  have hr := h.row
  obtain rfl : L.length = n := h.len11
  exact (World.ownsRow.stored hr k (.int .i64 x)).1
theorem set_oth11 {w : World} {s k g : Nat} {x : Value} (hne : g ≠ s) : (w.setCell ⟨s, k, none⟩ x).heap[g]? = w.heap[g]? := by
  have hs : (w.setCell ⟨s, k, none⟩ x).heap.size = w.heap.size := by simp [World.setCell]
  have := (But.refl (s) (s + 1) w).set (p := ⟨s, k, none⟩) (Nat.le_refl s) (Nat.lt_succ_self s) x
  by_cases h : g < w.heap.size
  · exact this.block g h (by omega)
  · rw [Array.getElem?_eq_none (xs := w.heap) (by omega), Array.getElem?_eq_none (by omega)]
theorem grown_set11 {w : World} {g k : Nat} {x : Value} : w.grownBy (w.setCell ⟨g, k, none⟩ x) (some g) :=
  ⟨rfl, rfl, rfl, by simp [World.setCell], fun j _ hne => set_oth11 (fun e => hne (by rw [e]))⟩
theorem grown_bel11 {w w' : World} (h : Below w.heap.size w w') (r : Option Nat) : w.grownBy w' r := ⟨h.os, h.tape, h.output, h.size, fun k hk _ => h.block k hk⟩
/-- The first m rise. -/
def Srt (L : List Int) (m : Nat) : Prop := ∀ x y, x < y → y < m → L.getD x 0 ≤ L.getD y 0
/-- The first i + 1 rise, but for what lies at j. -/
def SrtE (L : List Int) (i j : Nat) : Prop := ∀ x y, x < y → y ≤ i → y ≠ j → L.getD x 0 ≤ L.getD y 0
def swI (L : List Int) (j : Nat) : List Int := (L.set j (L.getD (j - 1) 0)).set (j - 1) (L.getD j 0)
theorem swI_len (L : List Int) (j : Nat) : (swI L j).length = L.length := by simp [swI]
theorem swI_perm {L : List Int} {j : Nat} (h0 : 0 < j) (hj : j < L.length) : (swI L j).Perm L := by
  have h1 : j - 1 < L.length := by omega
  have := @List.set_set_perm _ L j (j - 1) hj h1
  unfold swI
  rw [List.getD_eq_getElem?_getD, List.getD_eq_getElem?_getD, List.getElem?_eq_getElem hj, List.getElem?_eq_getElem h1]
  exact this
theorem swI_at {L : List Int} {j : Nat} (h0 : 0 < j) (hj : j < L.length) (x : Nat) : (swI L j).getD x 0 = if x = j then L.getD (j - 1) 0 else if x = j - 1 then L.getD j 0 else L.getD x 0 := by
  unfold swI
  simp only [List.getD_eq_getElem?_getD, List.getElem?_set, List.length_set]
  by_cases c1 : x = j
  · subst c1
    rw [if_neg (by omega), if_pos rfl, if_pos (by omega), if_pos rfl]
    rfl
  · by_cases c2 : x = j - 1
    · subst c2
      rw [if_pos rfl, if_pos (by omega), if_neg c1, if_pos rfl]
      rfl
    · rw [if_neg (fun e => c2 e.symm), if_neg (fun e => c1 e.symm), if_neg c1, if_neg c2]
theorem srt_start {L : List Int} {i : Nat} (h : Srt L i) : SrtE L i i := fun x y h1 h2 h3 => h x y h1 (by omega)
theorem srt_swap {L : List Int} {i j : Nat} (h : SrtE L i j) (h0 : 0 < j) (hi : j ≤ i) (hj : j < L.length) (hl : L.getD j 0 < L.getD (j - 1) 0) : SrtE (swI L j) i (j - 1) := by
  intro x y h1 h2 h3
  rw [swI_at h0 hj, swI_at h0 hj]
  have a1 := h x (j - 1)
  have a2 := h (j - 1) y
  have a3 := h j y
  have a4 := h x y
  by_cases c1 : y = j
  · subst c1
    rw [if_pos rfl, if_neg (by omega)]
    by_cases c2 : x = y - 1
    · rw [if_pos c2]; omega
    · rw [if_neg c2]; exact a1 (by omega) (by omega) (by omega)
  · rw [if_neg c1, if_neg h3]
    by_cases c2 : x = j
    · rw [if_pos c2]; exact a2 (by omega) (by omega) c1
    · rw [if_neg c2]
      by_cases c3 : x = j - 1
      · rw [if_pos c3]; exact a3 (by omega) h2 c1
      · rw [if_neg c3]; exact a4 h1 h2 c1
theorem srt_end {L : List Int} {i j : Nat} (h : SrtE L i j) (hi : j ≤ i) (he : j = 0 ∨ L.getD (j - 1) 0 ≤ L.getD j 0) : Srt L (i + 1) := by
  intro x y h1 h2
  by_cases c : y = j
  · subst c
    rcases he with k | k
    · omega
    · by_cases c2 : x = y - 1
      · rw [c2]; exact k
      · have := h x (y - 1) (by omega) (by omega) (by omega)
        omega
  · exact h x y h1 (by omega) c
end Go.Proofs.YtcgbpcipdanfhaaDoor

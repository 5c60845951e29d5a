/- Slices of points that are written: marks, and what is told of them. No condition beyond those typed. -/
import Derived.Test.YtcgbpcipdanfhaaDoorPtH
namespace Go.Proofs.YtcgbpcipdanfhaaDoor
open Go.RowKit
set_option linter.unusedVariables false
set_option maxRecDepth 100000
set_option linter.unusedSimpArgs false

/-- Points that lie in a block below B. -/
def SlB8 (w : World) (B : Nat) (a : Option Addr) (l : List (Int × Int)) : Prop := l = [] ∨ ∃ b off, a = some ⟨b, off, none⟩ ∧ b < B ∧ b < w.heap.size ∧ ∀ i (h : i < l.length), w.cell? ⟨b, off + i * 2, none⟩ = some (.int .i64 l[i].1) ∧ w.cell? ⟨b, off + i * 2 + 1, none⟩ = some (.int .i64 l[i].2)
theorem SlP.below8 {w : World} {a : Option Addr} {l : List (Int × Int)} (h : SlP w a l) : SlB8 w w.heap.size a l := by
  rcases h with h | ⟨b, off, e, h1, h2⟩
  · exact .inl h
  · exact .inr ⟨b, off, e, h1, h1, h2⟩
theorem SlB8.sl {w : World} {B : Nat} {a : Option Addr} {l : List (Int × Int)} (h : SlB8 w B a l) : SlP w a l := by
  rcases h with h | ⟨b, off, e, h1, h2, h3⟩
  · exact .inl h
  · exact .inr ⟨b, off, e, h2, h3⟩
theorem SlB8.keep {w w' : World} {B lo hi : Nat} {a : Option Addr} {l : List (Int × Int)} (h : SlB8 w B a l) (hb : But lo hi w w') (hB : B ≤ lo) : SlB8 w' B a l := by
  rcases h with h | ⟨b, off, e, h1, h2, h3⟩
  · exact .inl h
  · exact .inr ⟨b, off, e, h1, Nat.lt_of_lt_of_le h2 hb.size, fun i hi => ⟨hb.cell (h3 i hi).1 (.inl (by omega)), hb.cell (h3 i hi).2 (.inl (by omega))⟩⟩
theorem SlB8.later {w w' : World} {B : Nat} {a : Option Addr} {l : List (Int × Int)} (h : SlB8 w B a l) (hb : Below w.heap.size w w') : SlB8 w' B a l := h.keep (But.of_below (lo := B) (hi := B) hb) (Nat.le_refl _)
theorem OwP.keep {w w' : World} {G n c lo hi : Nat} {l : List (Int × Int)} (h : OwP w G n c l) (hb : But lo hi w w') (hG : G < lo ∨ hi ≤ G) : OwP w' G n c l := by
  obtain ⟨M, hr, hM⟩ := h.row
  refine ⟨⟨M, ⟨hr.1, ?_⟩, hM⟩, h.len⟩
  rcases hr.2 with ⟨h', _⟩ | ⟨g', cap, cur, hv, h1, hg, r⟩
  · simp at h'
  · refine .inr ⟨g', cap, cur, hv, h1, ?_, r⟩
    have e : g' = G := by simp only [Value.slice.injEq, Option.some.injEq, Addr.mk.injEq, and_true, true_and] at hv; exact hv.1.symm
    subst e
    rw [hb.block _ (Array.getElem?_eq_some_iff.1 hg).1 hG]
    exact hg
theorem OwP.lt {w : World} {G n c : Nat} {l : List (Int × Int)} (h : OwP w G n c l) : G < w.heap.size := by
  obtain ⟨M, hr, _⟩ := h.row
  rcases hr.2 with ⟨h', _⟩ | ⟨g', cap, cur, hv, h1, hg, r⟩
  · simp at h'
  · have e : g' = G := by simp only [Value.slice.injEq, Option.some.injEq, Addr.mk.injEq, and_true, true_and] at hv; exact hv.1.symm
    subst e
    exact (Array.getElem?_eq_some_iff.1 hg).1
/-- n points that bear the numbers from k on. -/
def mks (k : Int) (n : Nat) : List (Int × Int) := (List.range n).map (fun i : Nat => (k + 2 * (i : Int), k + 2 * (i : Int) + 1))
theorem mks_len (k : Int) (n : Nat) : (mks k n).length = n := by simp [mks]
theorem mks_at {k : Int} {n i : Nat} (h : i < (mks k n).length) : (mks k n)[i] = (k + 2 * (i : Int), k + 2 * (i : Int) + 1) := by simp [mks]
set_option maxHeartbeats 4000000 in
theorem markPs (G n c : Nat) (k : Int) (l : List (Int × Int)) (w : World) (h : OwP w G n c l) (h1 : n ≤ 1048576) (k0 : 0 ≤ k) (k1 : k ≤ 4000000) :
    Calls Tryd.prog 35 #[.slice (some ⟨G, 0, none⟩) n c, .int .i64 k] w fun e w' => e = .returned (.int .i64 (k + 2 * n)) ∧ But G (G + 1) w w' ∧ OwP w' G n c (mks k n) := by
  have R0 := hide h.row
  clear h
  go_enter Tryd.func35, Tryd.ntmps35
  go_wp2
  go_loopw [1, 5] (fun kv iv wr => ∃ i : Nat, i ≤ n ∧ iv = .int .i64 i ∧ kv = .int .i64 (k + 2 * i) ∧ Hid (But G (G + 1) w wr) ∧ Hid (∃ M, wr.ownsRow G 66 2 (.slice (some ⟨G, 0, none⟩) n c) n M ∧ ∀ j (h : j < (mks k i).length), M[j * 2]? = some (.int .i64 (mks k i)[j].1) ∧ M[j * 2 + 1]? = some (.int .i64 (mks k i)[j].2))) (fun _ iv _ => n - (intOf iv).toNat)
  case atStart =>
    obtain ⟨M, hM, _⟩ := unhide R0
    exact ⟨0, Nat.zero_le _, rfl, by simp, hide (But.refl _ _ _), hide ⟨M, hM, fun j hj => absurd hj (by simp [mks])⟩⟩
  case round =>
    obtain ⟨i, hi, rfl, rfl, HB, EM⟩ := hrel
    by_cases hlt : i < n
    · have hlt' : (i : Int) < (n : Int) := by omega
      obtain ⟨M, hM, hL⟩ := unhide EM
      have old0 : ∃ x, wr.cell? ⟨G, i * 2, none⟩ = some x := by
        have hl := hM.1
        rw [hM.cellAt _ (by omega)]
        exact ⟨_, List.getElem?_eq_getElem (by omega)⟩
      obtain ⟨x0, o0⟩ := old0
      have old1 : ∃ x, wr.cell? ⟨G, i * 2 + 1, none⟩ = some x := by
        have hl := hM.1
        rw [hM.cellAt _ (by omega)]
        exact ⟨_, List.getElem?_eq_getElem (by omega)⟩
      obtain ⟨x1, o1⟩ := old1
      have fr : ∀ o, wr.frozen? ⟨G, o, none⟩ = false := fun o => hM.frozenAt o
      have HM := hide hM
      have HL := hide hL
      have v1 : IntKind.i64.wrap (k + 2 * (i : Int) + 1) = k + 2 * (i : Int) + 1 := by rw [IntKind.wrap_i64]; omega
      have v2 : IntKind.i64.wrap (k + 2 * (i : Int) + 1 + 1) = k + 2 * (i : Int) + 1 + 1 := by rw [IntKind.wrap_i64]; omega
      clear hM hL EM
      go_wp2
      go_roundw
      case rel =>
        have hM := unhide HM
        refine ⟨i + 1, by omega, by go_num, by congr 1; omega, hide ((unhide HB).trans but_rowP), hide ⟨_, (World.ownsRow.stored (World.ownsRow.stored hM (i * 2) (.int .i64 (k + 2 * (i : Int)))).1 (i * 2 + 1) (.int .i64 (k + 2 * (i : Int) + 1))).1, ?_⟩⟩
        have em : mks k (i + 1) = mks k i ++ [(k + 2 * (i : Int), k + 2 * (i : Int) + 1)] := by simp [mks, List.range_succ]
        rw [em]
        exact set_rowP hM.1 hlt (mks_len k i) (unhide HL)
      case measure => simp [intOf]; omega
    · obtain rfl : i = n := by omega
      go_wp2
      go_ret
      exact ⟨rfl, unhide HB, unhide EM, mks_len k i⟩
set_option maxHeartbeats 4000000 in
theorem heldPs (a : Option Addr) (n c : Nat) (k : Int) (w : World) (h : SlP w a (mks k n)) (h1 : n ≤ 1048576) (k0 : 0 ≤ k) (k1 : k ≤ 4000000) :
    Calls Tryd.prog 36 #[.slice a n c, .int .i64 k] w fun e w' => e = .returned (.int .i64 (k + 2 * n)) ∧ Below w.heap.size w w' := by
  have HS := hide h
  clear h
  go_enter Tryd.func36, Tryd.ntmps36
  go_wp2
  go_loopw [1, 5] (fun kv iv wr => ∃ i : Nat, i ≤ n ∧ iv = .int .i64 i ∧ kv = .int .i64 (k + 2 * i) ∧ Hid (Below w.heap.size w wr)) (fun _ iv _ => n - (intOf iv).toNat)
  case atStart => exact ⟨0, Nat.zero_le _, rfl, by simp, hide (Below.refl _ _)⟩
  case round =>
    obtain ⟨i, hi, rfl, rfl, HB⟩ := hrel
    by_cases hlt : i < n
    · have hlt' : (i : Int) < (n : Int) := by omega
      rcases (unhide HS) with e | ⟨b, off, rfl, hb, hc⟩
      · exact absurd (mks_len k n) (by rw [e]; simp; omega)
      have e0 := hc i (by rw [mks_len]; exact hlt)
      rw [mks_at] at e0
      clear hc
      have E0 : wr.cell? ⟨b, off + i * 2, none⟩ = some (.int .i64 (k + 2 * (i : Int))) := ((unhide HB).cell (p := ⟨b, off + i * 2, none⟩) hb).trans (e0.1)
      have E1 : wr.cell? ⟨b, off + i * 2 + 1, none⟩ = some (.int .i64 (k + 2 * (i : Int) + 1)) := ((unhide HB).cell (p := ⟨b, off + i * 2 + 1, none⟩) hb).trans (e0.2)
      clear e0
      have v1 : IntKind.i64.wrap (k + 2 * (i : Int) + 1) = k + 2 * (i : Int) + 1 := by rw [IntKind.wrap_i64]; omega
      have v2 : IntKind.i64.wrap (k + 2 * (i : Int) + 1 + 1) = k + 2 * (i : Int) + 1 + 1 := by rw [IntKind.wrap_i64]; omega
      go_wp2
      go_roundw
      case rel => exact ⟨i + 1, by omega, by go_num, by congr 1; omega, HB⟩
      case measure => simp [intOf]; omega
    · obtain rfl : i = n := by omega
      go_wp2
      go_ret
      exact ⟨rfl, unhide HB⟩
/-- An answer that is a slice of points of the call's own. -/
structure RtP (B : Nat) (w : World) (a : Option Addr) (n c : Nat) (l : List (Int × Int)) : Prop where
  len : l.length = n
  own : (n = 0) ∨ ∃ G, a = some ⟨G, 0, none⟩ ∧ B ≤ G ∧ OwP w G n c l
theorem RtP.later {B : Nat} {w w' : World} {a : Option Addr} {n c : Nat} {l : List (Int × Int)} (h : RtP B w a n c l) (hb : Below w.heap.size w w') : RtP B w' a n c l := by
  refine ⟨h.len, ?_⟩
  rcases h.own with h0 | ⟨G, e, hB, ho⟩
  · exact .inl h0
  · exact .inr ⟨G, e, hB, ho.later hb⟩
theorem RtP.keep {B G : Nat} {w w' : World} {a : Option Addr} {n c : Nat} {l : List (Int × Int)} (h : RtP B w a n c l) (hb : But G (G + 1) w w') (hG : G < B) : RtP B w' a n c l := by
  refine ⟨h.len, ?_⟩
  rcases h.own with h0 | ⟨G', e, hB, ho⟩
  · exact .inl h0
  · exact .inr ⟨G', e, hB, ho.keep hb (.inr (by omega))⟩
theorem RtP.sl {B : Nat} {w : World} {a : Option Addr} {n c : Nat} {l : List (Int × Int)} (h : RtP B w a n c l) : SlP w a l := by
  rcases h.own with h0 | ⟨G, rfl, hB, ho⟩
  · exact .inl (List.length_eq_zero_iff.1 (h.len.trans h0))
  · exact ho.arg.sl
theorem below_but8 {B : Nat} {w w' : World} (h : Below B w w') {hi : Nat} (hh : w.heap.size ≤ hi) : But B hi w w' := ⟨h.os, h.tape, h.output, h.size, fun k hk hj => h.block k (by omega)⟩
/-- Marks of an answer: what lies below B stays. -/
theorem markRt (B : Nat) (a : Option Addr) (n c : Nat) (k : Int) (l : List (Int × Int)) (w : World) (h : RtP B w a n c l) (h1 : n ≤ 1048576) (k0 : 0 ≤ k) (k1 : k ≤ 4000000) (hB : B ≤ w.heap.size) :
    Calls Tryd.prog 35 #[.slice a n c, .int .i64 k] w fun e w' => e = .returned (.int .i64 (k + 2 * n)) ∧ Below B w w' ∧ RtP B w' a n c (mks k n) := by
  rcases h.own with h0 | ⟨G, rfl, hG, ho⟩
  · subst h0
    go_enter Tryd.func35, Tryd.ntmps35
    go_wp2
    refine wp_loop_rounds 1 ?_
    rw [rounds_succ]
    go_wp2
    go_ret
    exact ⟨by simp, Below.refl _ _, ⟨rfl, .inl rfl⟩⟩
  · refine (markPs G n c k l w ho h1 k0 k1).mono ?_
    rintro e w1 ⟨rfl, hb, o1⟩
    exact ⟨rfl, hb.below (Below.refl _ _) hG hB, ⟨mks_len k n, .inr ⟨G, rfl, hG, o1⟩⟩⟩
end Go.Proofs.YtcgbpcipdanfhaaDoor

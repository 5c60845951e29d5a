/- The laws' copying functions toIntS and toBig answer a copy in new memory, and change nothing that was there. No condition beyond those typed. -/
import Derived.Test.YtnmoiokgjdoenaaDoorAid
namespace Go.Proofs.YtnmoiokgjdoenaaDoor
open Go.RowKit
set_option linter.unusedVariables false
set_option maxRecDepth 100000
set_option linter.unusedSimpArgs false

theorem Tryd.info3 : (Tryd.prog.info? 3).map (fun i => (i.zero, i.size, i.bytes)) = some (some (.int .i64 0), 1, 8) := by kernel_rfl

/-- what the loop of a copy has made after k rounds -/
def cp (xs : List Int) (k : Nat) : List Int := xs.take k ++ List.replicate (xs.length - k) 0
theorem cp_zero (xs : List Int) : cp xs 0 = List.replicate xs.length 0 := by simp [cp]
theorem cp_all (xs : List Int) : cp xs xs.length = xs := by simp [cp]
theorem cp_len (xs : List Int) (k : Nat) (h : k ≤ xs.length) : (cp xs k).length = xs.length := by simp [cp]; omega
theorem cp_set (xs : List Int) (k : Nat) (h : k < xs.length) : (cp xs k).set k (xs.getD k 0) = cp xs (k + 1) := by
  apply List.ext_getElem?
  intro i
  simp only [cp, List.getElem?_set, List.getElem?_append, List.getElem?_take, List.getElem?_replicate, List.length_append, List.length_take, List.length_replicate, List.getD_eq_getElem?_getD]
  by_cases h1 : k = i
  · subst h1
    rw [if_pos rfl, if_pos (by omega), if_pos (by omega), if_pos (by omega), List.getElem?_eq_getElem h]
    rfl
  · rw [if_neg h1]
    by_cases h3 : i < k
    · rw [if_pos (show i < min k xs.length by omega), if_pos h3, if_pos (show i < min (k + 1) xs.length by omega), if_pos (show i < k + 1 by omega)]
    · rw [if_neg (show ¬ i < min k xs.length by omega), if_neg (show ¬ i < min (k + 1) xs.length by omega)]
      by_cases h4 : i < xs.length
      · rw [if_pos (show i - min k xs.length < xs.length - k by omega), if_pos (show i - min (k + 1) xs.length < xs.length - (k + 1) by omega)]
      · rw [if_neg (show ¬ i - min k xs.length < xs.length - k by omega), if_neg (show ¬ i - min (k + 1) xs.length < xs.length - (k + 1) by omega)]

theorem made_ints (n : Nat) : (madeCells #[Value.int .i64 0] n).toList = (List.replicate n 0).map (Value.int .i64) := by
  apply List.ext_getElem?
  intro i
  simp only [madeCells]
  by_cases h : i < n <;> simp [h, Nat.mod_one]

theorem toI_any (a : Option Addr) (n c : Nat) (xs : List Int) (w : World) (hx : Sl w a xs) (hn : xs.length = n) (h1 : n ≤ 1048576) :
    Calls Tryd.prog 18 #[.slice a n c] w fun e w' => ∃ g, e = .returned (.slice (some ⟨g, 0, none⟩) n n) ∧ Below w.heap.size w w' ∧
      w'.ownsRow w.heap.size 3 1 (.slice (some ⟨g, 0, none⟩) n n) n (xs.map (Value.int .i64)) := by
  obtain ⟨i0, hi, hz0, hz1, hz2⟩ := info_parts Tryd.info3
  have HN := hide hn
  clear hn
  go_enter Tryd.func18, Tryd.ntmps18
  go_wp2_with (at_make; refine wpList_make_full _ rfl _ _ 22 rfl w.heap.size 3 i0 (.int .i64 0) 1 Tryd.underlying22 hi hz0 hz1 .i64 .i64 _ _ n rfl rfl rfl rfl ?c1 ?c2 ?c3 ?_)
  case c1 => rw [hz2]; omega
  case c2 => unfold maxLen; omega
  case c3 => exact Nat.le_refl _
  intro w1 hown hgrow
  have hown0 : w1.ownsRow w.heap.size 3 1 (.slice (some ⟨w.heap.size, 0, none⟩) n n) n ((cp xs 0).map (Value.int .i64)) := by
    rw [cp_zero, unhide HN]; rw [made_ints] at hown; exact hown
  have hb0 : Below w.heap.size w w1 := (Below.refl _ _).grown hgrow (Nat.le_refl _) (fun k e => by cases e)
  clear hown hgrow
  go_wp2
  go_loopw [4] (fun i wr => ∃ k : Nat, k ≤ n ∧ i = .int .i64 k ∧ wr.ownsRow w.heap.size 3 1 (.slice (some ⟨w.heap.size, 0, none⟩) n n) n ((cp xs k).map (Value.int .i64)) ∧ Below w.heap.size w wr) (fun i _ => n - (intOf i).toNat)
  case atStart => exact ⟨0, Nat.zero_le _, rfl, hown0, hb0⟩
  case round =>
    obtain ⟨k, hk, rfl, hown, hbel⟩ := hrel
    by_cases hlt : k < n
    · rcases hx with rfl | ⟨b, off, rfl, hb, hc⟩
      · have := unhide HN; simp at this; omega
      have hxl : k < xs.length := by rw [unhide HN]; exact hlt
      have hcell : wr.cell? ⟨b, off + k, none⟩ = some (.int .i64 (xs.getD k 0)) := (hbel.cell (by exact hb)).trans (hc k hxl)
      have hfr : wr.frozen? ⟨w.heap.size, k, none⟩ = false := hown.frozenAt k
      have hold : wr.cell? ⟨w.heap.size, k, none⟩ = some (.int .i64 ((cp xs k).getD k 0)) := by
        rw [hown.cellAt k (by omega)]
        simp [cp_len xs k (by omega), hxl]
      have R : (wr.setCell ⟨w.heap.size, k, none⟩ (.int .i64 (xs.getD k 0))).ownsRow w.heap.size 3 1 (.slice (some ⟨w.heap.size, 0, none⟩) n n) n ((cp xs (k + 1)).map (Value.int .i64)) := by
        have := (hown.stored k (.int .i64 (xs.getD k 0))).1
        rw [← cp_set xs k hxl, List.map_set]
        exact this
      have hB : Below w.heap.size w (wr.setCell ⟨w.heap.size, k, none⟩ (.int .i64 (xs.getD k 0))) := hbel.setCell (Nat.le_refl _) _
      have HR := hide R
      clear R hown
      go_wp2
      go_roundw
      case rel =>
        have hg : xs.getD k 0 = xs[k] := by simp [hxl]
        have hR := unhide HR
        rw [hg] at hR hB
        exact ⟨k + 1, by omega, by go_num, hR, hB⟩
      case measure => simp [intOf]; omega
    · have : k = n := by omega
      go_wp2
      go_ret
      refine ⟨_, rfl, hbel, ?_⟩
      have e : k = xs.length := by rw [unhide HN]; omega
      rw [e, cp_all] at hown
      exact hown

theorem Sl.of_owns {w : World} {base g n c : Nat} {xs : List Int} (h : w.ownsRow base 3 1 (.slice (some ⟨g, 0, none⟩) n c) n (xs.map (Value.int .i64))) (hn : xs.length = n) : Sl w (some ⟨g, 0, none⟩) xs := by
  refine .inr ⟨g, 0, rfl, ?_, fun i hi => ?_⟩
  · rcases h.2 with ⟨h', _⟩ | ⟨g', cap', cur, h', _, hg, _⟩
    · simp at h'
    · simp only [Value.slice.injEq, Option.some.injEq, Addr.mk.injEq, and_true, true_and] at h'
      obtain ⟨rfl, rfl⟩ := h'
      exact (Array.getElem?_eq_some_iff.1 hg).1
  · rw [Nat.zero_add, h.cellAt i (by omega)]
    simp [hi]

theorem bcell {W w1 : World} (hb : Below W.heap.size W w1) : (∀ b o, b < W.heap.size → w1.cell? ⟨b, o, none⟩ = W.cell? ⟨b, o, none⟩) ∧ (∀ b o, b < W.heap.size → w1.frozen? ⟨b, o, none⟩ = W.frozen? ⟨b, o, none⟩) :=
  ⟨fun b o h => hb.cell (p := ⟨b, o, none⟩) h, fun b o h => hb.frozen (p := ⟨b, o, none⟩) h⟩

theorem owns_mono {w : World} {base base' : Nat} {e : TypeId} {size : Nat} {v : Value} {n : Nat} {xs : List Value} (h : w.ownsRow base e size v n xs) (hb : base' ≤ base) : w.ownsRow base' e size v n xs := by
  obtain ⟨h1, h2⟩ := h
  refine ⟨h1, ?_⟩
  rcases h2 with h2 | ⟨g, cap, cur, hv, hg, r⟩
  · exact Or.inl h2
  · exact Or.inr ⟨g, cap, cur, hv, by omega, r⟩

theorem to_any (g : Bool) (a : Option Addr) (n c : Nat) (xs : List Int) (w : World) (hx : Sl w a xs) (hn : xs.length = n) (h1 : n ≤ 1048576) :
    Calls Tryd.prog 7 #[.agg #[.bool g, .slice a n c]] w fun e w' => ∃ b, e = .returned (.agg #[.bool g, .slice (some ⟨b, 0, none⟩) n n]) ∧ Below w.heap.size w w' ∧ w.heap.size ≤ b ∧
      w'.ownsRow w.heap.size 3 1 (.slice (some ⟨b, 0, none⟩) n n) n (xs.map (Value.int .i64)) := by
  have HN := hide hn
  have HX := hide hx
  clear hn hx
  go_enter Tryd.func7, Tryd.ntmps7
  go_wp2_with fail
  refine (toI_any a n c xs _ ((unhide HX).later (Nat.le_refl _) (by exact (((Below.refl _ _).alloc (Nat.le_refl _) _).alloc (by simp) _).alloc (by simp; omega) _)) (unhide HN) h1).mono ?_
  rintro e w1 ⟨b, rfl, hb, hown⟩
  have hob : w.heap.size + 3 ≤ b := by
    rcases hown.2 with ⟨h', _⟩ | ⟨g', cap', cur, h', hg, _⟩
    · simp at h'
    · simp only [Value.slice.injEq, Option.some.injEq, Addr.mk.injEq, and_true, true_and] at h'
      obtain ⟨rfl, rfl⟩ := h'
      simpa using hg
  obtain ⟨hc, hf⟩ := bcell hb
  have hz : w.heap.size + 1 + 1 < w1.heap.size := by have := hb.size; simp at this; omega
  go_wp2
  refine bodyPost_ret (v := .agg #[.bool g, .slice (some ⟨b, 0, none⟩) n n]) (by simp [results, Tryd.results7, go_sem, hc]) rfl ⟨b, rfl, ?_, by omega, ?_⟩
  · have h0 : Below w.heap.size w w1 := (((((Below.refl _ _).alloc (Nat.le_refl _) _).alloc (by simp) _).alloc (by simp; omega) _).trans (hb.mono (by simp; omega)))
    exact ((h0.setCell (by simp; omega) _).setCell (by simp) _).setCell (by simp) _
  · refine owns_mono (ownsRow_setCell_below (ownsRow_setCell_below (ownsRow_setCell_below hown (by simp) _) (by simp) _) (by simp) _) (by simp; omega)
end Go.Proofs.YtnmoiokgjdoenaaDoor

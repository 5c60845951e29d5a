/- Chapter 8 of the program: the segments of a way, areas, borders. No condition beyond those typed. Written by mkseg8.py. -/
import Derived.Test.YtomekmhonfofkaaGreatIm8
namespace Go.Proofs.YtomekmhonfofkaaGreat
open Go.RowKit
set_option linter.unusedVariables false
set_option maxRecDepth 100000
set_option linter.unusedSimpArgs false

def SgM (M : List Value) (l : List (Int × Int)) (k : Nat) : Prop := ∀ i, i < k → M[i * 4]? = some (.int .i64 (l.getD i (0, 0)).1) ∧ M[i * 4 + 1]? = some (.int .i64 (l.getD i (0, 0)).2) ∧ M[i * 4 + 2]? = some (.int .i64 (nxt l i).1) ∧ M[i * 4 + 3]? = some (.int .i64 (nxt l i).2)
theorem SgM.step {M : List Value} {l : List (Int × Int)} {n k : Nat} (hM : M.length = n * 4) (hk : k < n) (h : SgM M l k) :
    SgM ((((M.set (k * 4) (.int .i64 (l.getD k (0, 0)).1)).set (k * 4 + 1) (.int .i64 (l.getD k (0, 0)).2)).set (k * 4 + 2) (.int .i64 (nxt l k).1)).set (k * 4 + 3) (.int .i64 (nxt l k).2)) l (k + 1) := by
  intro i hi
  by_cases e : i < k
  · have h1 := h i e
    simp only [List.getElem?_set]
    refine ⟨?_, ?_, ?_, ?_⟩
    · rw [if_neg (by omega), if_neg (by omega), if_neg (by omega), if_neg (by omega)]; exact h1.1
    · rw [if_neg (by omega), if_neg (by omega), if_neg (by omega), if_neg (by omega)]; exact h1.2.1
    · rw [if_neg (by omega), if_neg (by omega), if_neg (by omega), if_neg (by omega)]; exact h1.2.2.1
    · rw [if_neg (by omega), if_neg (by omega), if_neg (by omega), if_neg (by omega)]; exact h1.2.2.2
  · obtain rfl : i = k := by omega
    simp only [List.getElem?_set, List.length_set]
    refine ⟨?_, ?_, ?_, ?_⟩
    · rw [if_neg (by omega), if_neg (by omega), if_neg (by omega), if_pos trivial, if_pos (by omega)]
    · rw [if_neg (by omega), if_neg (by omega), if_pos trivial, if_pos (by omega)]
    · rw [if_neg (by omega), if_pos trivial, if_pos (by omega)]
    · rw [if_pos trivial, if_pos (by omega)]
/-- The segments of a way, in block G. -/
structure SgP (w : World) (G n : Nat) (l : List (Int × Int)) : Prop where
  lt : G < w.heap.size
  len : l.length = n
  at_ : ∀ i, i < n → w.cell? ⟨G, i * 4, none⟩ = some (.int .i64 (l.getD i (0, 0)).1) ∧ w.cell? ⟨G, i * 4 + 1, none⟩ = some (.int .i64 (l.getD i (0, 0)).2) ∧ w.cell? ⟨G, i * 4 + 2, none⟩ = some (.int .i64 (nxt l i).1) ∧ w.cell? ⟨G, i * 4 + 3, none⟩ = some (.int .i64 (nxt l i).2)
theorem SgP.later {w w' : World} {G n : Nat} {l : List (Int × Int)} (h : SgP w G n l) (hb : Below w.heap.size w w') : SgP w' G n l := by
  refine ⟨Nat.lt_of_lt_of_le h.lt hb.size, h.len, fun i hi => ?_⟩
  have k := h.at_ i hi
  exact ⟨cell_later hb k.1, cell_later hb k.2.1, cell_later hb k.2.2.1, cell_later hb k.2.2.2⟩
theorem row_lt8 {w : World} {G g n c size : Nat} {e : TypeId} {M : List Value} (h : w.ownsRow G e size (.slice (some ⟨g, 0, none⟩) n c) n M) : g < w.heap.size := by
  rcases h.2 with ⟨h', _⟩ | ⟨g', cap, cur, hv, h1, hg, r⟩
  · simp at h'
  · have e : g' = g := by simp only [Value.slice.injEq, Option.some.injEq, Addr.mk.injEq, and_true, true_and] at hv; exact hv.1.symm
    subst e
    exact (Array.getElem?_eq_some_iff.1 hg).1
theorem row_alloc8 {w : World} {G g n c size : Nat} {e : TypeId} {M : List Value} (h : w.ownsRow G e size (.slice (some ⟨g, 0, none⟩) n c) n M) (o : Obj) : (w.alloc o).ownsRow G e size (.slice (some ⟨g, 0, none⟩) n c) n M := ownsRow_laterP h ((Below.refl _ _).alloc (Nat.le_refl _) _)
theorem drew_row8 {w : World} {G g n c size : Nat} {e : TypeId} {M : List Value} (h : w.ownsRow G e size (.slice (some ⟨g, 0, none⟩) n c) n M) : w.drew.ownsRow G e size (.slice (some ⟨g, 0, none⟩) n c) n M := h
theorem infoSg : (Tryz.prog.info? 94).map (fun i => (i.zero, i.size, i.bytes)) = some (some (.agg #[.int .i64 0, .int .i64 0, .int .i64 0, .int .i64 0]), 4, 32) := by kernel_rfl
theorem but_rowS4 {w : World} {G k : Nat} {x y z u : Value} : But G (G + 1) w ((((w.setCell ⟨G, k * 4, none⟩ x).setCell ⟨G, k * 4 + 1, none⟩ y).setCell ⟨G, k * 4 + 2, none⟩ z).setCell ⟨G, k * 4 + 3, none⟩ u) :=
  ((((But.refl _ _ _).set (p := ⟨G, k * 4, none⟩) (Nat.le_refl G) (Nat.lt_succ_self G) x).set (p := ⟨G, k * 4 + 1, none⟩) (Nat.le_refl G) (Nat.lt_succ_self G) y).set (p := ⟨G, k * 4 + 2, none⟩) (Nat.le_refl G) (Nat.lt_succ_self G) z).set (p := ⟨G, k * 4 + 3, none⟩) (Nat.le_refl G) (Nat.lt_succ_self G) u
set_option maxHeartbeats 8000000 in
theorem segsI (a : Option Addr) (n c : Nat) (l : List (Int × Int)) (w : World) (h : SlP w a l) (hn : l.length = n) (h0 : 0 < n) (h1 : n ≤ 1048576) :
    Calls Tryz.prog 72 #[.slice a n c] w fun e w' => e = .returned (.slice (some ⟨w.heap.size, 0, none⟩) n n) ∧ Below w.heap.size w w' ∧ SgP w' w.heap.size n l := by
  obtain ⟨i0, hi, hz0, hz1, hz2⟩ := info_parts infoSg
  have HS := hide h
  have HN := hide hn
  clear h hn
  go_enter Tryz.func72, Tryz.ntmps72
  go_wp2_with (at_make; refine wpList_make_full _ rfl _ _ 91 rfl w.heap.size 94 i0 (.agg #[.int .i64 0, .int .i64 0, .int .i64 0, .int .i64 0]) 4 Tryz.underlying91 hi hz0 hz1 .i64 .i64 _ _ n rfl rfl rfl rfl ?c1 ?c2 ?c3 ?_)
  case c1 => rw [hz2]; omega
  case c2 => unfold maxLen; omega
  case c3 => exact Nat.le_refl _
  intro w1 hown hgrow
  have hb0 : Below w.heap.size w w1 := (Below.refl _ _).grown hgrow (Nat.le_refl _) (fun k e => by cases e)
  have P0 : Hid (∃ M, w1.ownsRow w.heap.size 94 4 (.slice (some ⟨w.heap.size, 0, none⟩) n n) n M) := hide ⟨_, hown⟩
  clear hown hgrow hi hz0 hz1 hz2
  have HB0 := hide hb0
  clear hb0
  have z1 : ((n : Int) == 0) = false := by simp; omega
  have z2 : (n : Int) ≠ 0 := by omega
  go_wp2
  go_loopw [11] (fun iv wr => ∃ k : Nat, k ≤ n ∧ iv = .int .i64 k ∧ Hid (∃ M, wr.ownsRow w.heap.size 94 4 (.slice (some ⟨w.heap.size, 0, none⟩) n n) n M ∧ SgM M l k) ∧ Hid (Below w.heap.size w wr)) (fun iv _ => n - (intOf iv).toNat)
  case atStart =>
    obtain ⟨M, hM⟩ := unhide P0
    exact ⟨0, Nat.zero_le _, rfl, hide ⟨M, hM, fun i hi => absurd hi (by omega)⟩, HB0⟩
  case round =>
    clear P0 HB0
    obtain ⟨k, hk, rfl, EM, HB⟩ := hrel
    by_cases hlt : k < n
    · have hlt' : (k : Int) < (n : Int) := by omega
      rcases (unhide HS) with e | ⟨b, off, rfl, hb, hc⟩
      · exact absurd (unhide HN) (by rw [e]; simp; omega)
      have e0 := hc k (by rw [unhide HN]; exact hlt)
      rw [← getD_gt (by rw [unhide HN]; exact hlt)] at e0
      have lt := Nat.mod_lt (k + 1) h0
      have f0 := hc ((k + 1) % n) (by rw [unhide HN]; exact lt)
      have en : nxt l k = l[(k + 1) % n]'(by rw [unhide HN]; exact lt) := by
        unfold nxt
        rw [getD_gt (by rw [unhide HN]; exact lt)]
        simp only [unhide HN]
      rw [← en] at f0
      have iw : IntKind.i64.wrap ((k : Int) + 1) = (k : Int) + 1 := by rw [IntKind.wrap_i64]; omega
      have im : ((k : Int) + 1).tmod (n : Int) = (((k + 1) % n : Nat) : Int) := by rw [← Int.natCast_one, ← Int.natCast_add]; rfl
      obtain ⟨M, hM, hL⟩ := unhide EM
      have HM := hide hM
      have STP := hide (hL.step hM.1 hlt)
      generalize (k + 1) % n = j at *
      have j0 : (0 : Int) ≤ (j : Int) := by omega
      have j1 : (j : Int) < (n : Int) := by omega
      clear hc en hL
      generalize nxt l k = q at *
      generalize l.getD k (0, 0) = p at *
      have E0 : wr.cell? ⟨b, off + k * 2, none⟩ = some (.int .i64 p.1) := ((unhide HB).cell (p := ⟨b, off + k * 2, none⟩) hb).trans (e0.1)
      have E1 : wr.cell? ⟨b, off + k * 2 + 1, none⟩ = some (.int .i64 p.2) := ((unhide HB).cell (p := ⟨b, off + k * 2 + 1, none⟩) hb).trans (e0.2)
      have F0 : wr.cell? ⟨b, off + j * 2, none⟩ = some (.int .i64 q.1) := ((unhide HB).cell (p := ⟨b, off + j * 2, none⟩) hb).trans (f0.1)
      have F1 : wr.cell? ⟨b, off + j * 2 + 1, none⟩ = some (.int .i64 q.2) := ((unhide HB).cell (p := ⟨b, off + j * 2 + 1, none⟩) hb).trans (f0.2)
      have lw : w.heap.size < wr.heap.size := (row_lt8 hM)
      clear e0 f0 hM EM
      go_upto_region 5 with fail
      have al : Below wr.heap.size wr (wr.alloc (.cells #[.int .i64 p.1, .int .i64 p.2] 37)) := (Below.refl _ _).alloc (Nat.le_refl _) _
      have k0 : (wr.alloc (.cells #[.int .i64 p.1, .int .i64 p.2] 37)).cell? ⟨wr.heap.size, 0, none⟩ = some (.int .i64 p.1) := by simp [go_sem]
      have k1 : (wr.alloc (.cells #[.int .i64 p.1, .int .i64 p.2] 37)).cell? ⟨wr.heap.size, 1, none⟩ = some (.int .i64 p.2) := by simp [go_sem]
      replace F0 := cell_later al F0
      replace F1 := cell_later al F1
      have HB1 := hide (below_on (unhide HB) al)
      have HM1 := hide (row_alloc8 (unhide HM) (.cells #[.int .i64 p.1, .int .i64 p.2] 37))
      have nb : b ≠ w.heap.size := by omega
      have nw : wr.heap.size ≠ w.heap.size := by omega
      clear al E0 E1 HM HB
      generalize wr.alloc (.cells #[.int .i64 p.1, .int .i64 p.2] 37) = w2 at *
      have hM := unhide HM1
      have hl := hM.1
      obtain ⟨x0, o0⟩ : ∃ x, w2.cell? ⟨w.heap.size, k * 4, none⟩ = some x := by rw [hM.cellAt _ (by omega)]; exact ⟨_, List.getElem?_eq_getElem (by omega)⟩
      obtain ⟨x1, o1⟩ : ∃ x, w2.cell? ⟨w.heap.size, k * 4 + 1, none⟩ = some x := by rw [hM.cellAt _ (by omega)]; exact ⟨_, List.getElem?_eq_getElem (by omega)⟩
      obtain ⟨x2, o2⟩ : ∃ x, w2.cell? ⟨w.heap.size, k * 4 + 2, none⟩ = some x := by rw [hM.cellAt _ (by omega)]; exact ⟨_, List.getElem?_eq_getElem (by omega)⟩
      obtain ⟨x3, o3⟩ : ∃ x, w2.cell? ⟨w.heap.size, k * 4 + 3, none⟩ = some x := by rw [hM.cellAt _ (by omega)]; exact ⟨_, List.getElem?_eq_getElem (by omega)⟩
      have fr : ∀ o, w2.frozen? ⟨w.heap.size, o, none⟩ = false := fun o => hM.frozenAt o
      clear hM hl lw
      go_region
      go_wp2
      go_roundw
      case rel =>
        have hM := drew_row8 (unhide HM1)
        refine ⟨k + 1, by omega, by go_num, hide ⟨_, (World.ownsRow.stored (World.ownsRow.stored (World.ownsRow.stored (World.ownsRow.stored hM (k * 4) (.int .i64 p.1)).1 (k * 4 + 1) (.int .i64 p.2)).1 (k * 4 + 2) (.int .i64 q.1)).1 (k * 4 + 3) (.int .i64 q.2)).1, unhide STP⟩, hide ?_⟩
        exact but_rowS4.below (unhide HB1).drew (Nat.le_refl _) (by have := (unhide HB1).size; exact this)
      case measure => simp [intOf]; omega
    · obtain rfl : k = n := by omega
      go_wp2
      go_ret
      obtain ⟨M, hM, hL⟩ := unhide EM
      refine ⟨rfl, unhide HB, (row_lt8 hM), unhide HN, fun i hi => ?_⟩
      have k1 := hL i hi
      refine ⟨?_, ?_, ?_, ?_⟩
      · rw [hM.cellAt _ (by omega)]; exact k1.1
      · rw [hM.cellAt _ (by omega)]; exact k1.2.1
      · rw [hM.cellAt _ (by omega)]; exact k1.2.2.1
      · rw [hM.cellAt _ (by omega)]; exact k1.2.2.2
set_option maxHeartbeats 4000000 in
theorem areaI (a : Option Addr) (n c : Nat) (l : List (Int × Int)) (w : World) (h : SlP w a l) (hn : l.length = n) (h0 : 0 < n) (h12 : n ≤ 12) (hg : ∀ p ∈ l, Near p) :
    Calls Tryz.prog 55 #[.slice a n c] w fun e w' => e = .returned (.int .i64 (arS l l.length)) ∧ Below w.heap.size w w' := by
  have CS := hide (segsI a n c l w h hn h0 (by omega))
  have HN := hide hn
  have HG := hide hg
  clear h hn hg
  go_enter Tryz.func55, Tryz.ntmps55
  go_wp2_with fail
  refine (unhide CS).mono ?_
  rintro e w1 ⟨rfl, hb, sg⟩
  have SG := hide sg
  have HB0 := hide hb
  have lt1 := sg.lt
  clear hb sg CS
  go_wp2
  go_loopw [3, 9] (fun sv iv wr => ∃ i : Nat, i ≤ n ∧ iv = .int .i64 i ∧ sv = .int .i64 (arS l i) ∧ Hid (Below w1.heap.size w1 wr)) (fun _ iv _ => n - (intOf iv).toNat)
  case atStart => exact ⟨0, Nat.zero_le _, rfl, rfl, hide (Below.refl _ _)⟩
  case round =>
    obtain ⟨i, hi, rfl, rfl, HB⟩ := hrel
    by_cases hlt : i < n
    · have hlt' : (i : Int) < (n : Int) := by omega
      have e0 := ((unhide SG).later (unhide HB)).at_ i hlt
      have np := unhide HG (l.getD i (0, 0)) (by rw [getD_gt (by rw [unhide HN]; exact hlt)]; exact List.getElem_mem _)
      have nq := unhide HG _ (nxt_mem (by rw [unhide HN]; omega) i)
      have bs := arS_bd (unhide HG) i (by rw [unhide HN]; omega)
      have ES : arS l (i + 1) = arS l i + ((l.getD i (0, 0)).1 * (nxt l i).2 - (nxt l i).1 * (l.getD i (0, 0)).2) := rfl
      have ESH := hide ES
      clear ES
      generalize arS l i = s0 at *
      generalize nxt l i = q at *
      generalize l.getD i (0, 0) = p at *
      have m0 := cr_bd np nq
      have m1 := @mul_bd p.1 q.2 (by have := np.x0; omega) (by have := np.x1; omega) (by have := nq.y0; omega) (by have := nq.y1; omega)
      have m2 := @mul_bd q.1 p.2 (by have := nq.x0; omega) (by have := nq.x1; omega) (by have := np.y0; omega) (by have := np.y1; omega)
      have w1 : IntKind.i64.wrap (p.1 * q.2) = p.1 * q.2 := by rw [IntKind.wrap_i64]; omega
      have w2 : IntKind.i64.wrap (q.1 * p.2) = q.1 * p.2 := by rw [IntKind.wrap_i64]; omega
      have w3 : IntKind.i64.wrap (p.1 * q.2 - q.1 * p.2) = p.1 * q.2 - q.1 * p.2 := by rw [IntKind.wrap_i64]; omega
      have w4 : IntKind.i64.wrap (s0 + (p.1 * q.2 - q.1 * p.2)) = s0 + (p.1 * q.2 - q.1 * p.2) := by rw [IntKind.wrap_i64]; omega
      clear m0 m1 m2
      clear np nq bs
      have E0 := e0.1
      have E1 := e0.2.1
      have E2 := e0.2.2.1
      have E3 := e0.2.2.2
      clear e0
      have HB3 := hide (below_on (unhide HB) ((Below.refl _ _).alloc (Nat.le_refl _) (.cells #[.int .i64 p.1, .int .i64 p.2, .int .i64 q.1, .int .i64 q.2] 94)))
      go_wp2
      go_roundw
      case rel => exact ⟨i + 1, by omega, by go_num, by rw [unhide ESH], HB3⟩
      case measure => simp [intOf]; omega
    · obtain rfl : i = n := by omega
      have EN : Hid (arS l i = arS l l.length) := hide (by rw [unhide HN])
      go_wp2
      go_ret
      exact ⟨by rw [← unhide EN]; rfl, below_on (unhide HB0) (unhide HB)⟩
end Go.Proofs.YtomekmhonfofkaaGreat

/- RingOf and FlipRing: the program's and the specification's, at every list of points. No condition beyond those typed. Written by mkri13.py. -/
import Derived.Test.YtokajpeopijneaaTo
import Derived.Test.YtokajpeopijneaaMark
import Derived.Deep.RegionHeld3
import Derived.Deep.AppendLies
import Derived.Test.YtokajpeopijneaaLaw2
import Derived.BigQuiet
import Derived.Test.YtokajpeopijneaaPkC150
import Derived.Test.YtokajpeopijneaaEq
import Derived.ShutString
import Derived.ChangeOld
import Derived.Lib.SmallJoins
import Derived.Deep.Slices
namespace Go.Proofs.Ytokajpeopijneaa
open Go.RowKit
set_option linter.unusedVariables false
set_option maxRecDepth 100000
set_option linter.unusedSimpArgs false

theorem toP (x y : Int) (w : World) :
    Calls Try.prog 19 #[.agg #[.int .i64 x, .int .i64 y]] w fun e w' => e = .returned (.agg #[.int .i64 x, .int .i64 y]) ∧ Below w.heap.size w w' := by
  go_enter Try.func19, Try.ntmps19
  go_wp2
  refine bodyPost_ret (v := .agg #[.int .i64 x, .int .i64 y]) (by simp [results, Try.results19, go_sem]) rfl ⟨rfl, ?_⟩
  exact (((Below.refl _ _).alloc (Nat.le_refl _) _).alloc (by simp) _).alloc (by simp; omega) _
/-- A slice that reads as these points. -/
def SlP (w : World) (a : Option Addr) (l : List (Int × Int)) : Prop := l = [] ∨ ∃ b off, a = some ⟨b, off, none⟩ ∧ b < w.heap.size ∧ ∀ i (h : i < l.length), w.cell? ⟨b, off + i * 2, none⟩ = some (.int .i64 l[i].1) ∧ w.cell? ⟨b, off + i * 2 + 1, none⟩ = some (.int .i64 l[i].2)
theorem SlP.later {w w' : World} {a : Option Addr} {l : List (Int × Int)} (h : SlP w a l) (hb : Below w.heap.size w w') : SlP w' a l := by
  rcases h with h | ⟨b, off, rfl, h1, h2⟩
  · exact .inl h
  · exact .inr ⟨b, off, rfl, Nat.lt_of_lt_of_le h1 hb.size, fun i hi => ⟨cell_later hb ((h2 i hi).1), cell_later hb ((h2 i hi).2)⟩⟩
/-- .. as an argument. -/
structure ArP (w : World) (a : Option Addr) (n c : Nat) (l : List (Int × Int)) : Prop where
  sl : SlP w a l
  len : l.length = n
  cap : n ≤ c
  top : c ≤ maxLen
theorem ArP.later {w w' : World} {a : Option Addr} {n c : Nat} {l : List (Int × Int)} (h : ArP w a n c l) (hb : Below w.heap.size w w') : ArP w' a n c l := ⟨h.sl.later hb, h.len, h.cap, h.top⟩
theorem szPs (a : Option Addr) (n c : Nat) (left : Int) (w : World) (hm : n ≤ maxLen) (h0 : 0 ≤ left) (h1 : left ≤ 1048576) :
    Calls Try.prog 5 #[.slice a n c, .int .i64 left] w fun e w' => Below w.heap.size w w' ∧ ((e = .returned (.int .i64 (-1)) ∧ left < n) ∨ (e = .returned (.int .i64 (left - n)) ∧ (n : Int) ≤ left)) := by
  unfold maxLen at hm
  have iw : IntKind.i64.wrap (left - (n : Int)) = left - (n : Int) := by rw [IntKind.wrap_i64]; omega
  by_cases c0 : left - (n : Int) < 0
  · have d0 : decide (left - (n : Int) < 0) = true := decide_eq_true c0
    go_enter Try.func5, Try.ntmps5
    go_wp2
    go_ret
    exact ⟨Below.refl _ _, .inl ⟨rfl, by omega⟩⟩
  · have d0 : decide (left - (n : Int) < 0) = false := decide_eq_false c0
    go_enter Try.func5, Try.ntmps5
    go_wp2
    go_ret
    exact ⟨Below.refl _ _, .inr ⟨rfl, by omega⟩⟩
theorem eqP (x y : Int) (w : World) :
    Calls Try.prog 24 #[.agg #[.int .i64 x, .int .i64 y], .agg #[.int .i64 x, .int .i64 y]] w fun e w' => e = .returned (.bool true) ∧ Below w.heap.size w w' := by
  go_enter Try.func24, Try.ntmps24
  go_wp2
  go_ret
  exact ⟨rfl, ((Below.refl _ _).alloc (Nat.le_refl _) _).alloc (by simp) _⟩
theorem cdP {w : World} {b o : Nat} {v : Value} (h : w.cell? ⟨b, o, none⟩ = some v) : w.drew.cell? ⟨b, o, none⟩ = some v := h
theorem take_succP {l : List (Int × Int)} {i : Nat} (h : i < l.length) : l.take (i + 1) = l.take i ++ [l[i]] := (List.take_append_getElem h).symm
set_option maxHeartbeats 4000000 in
theorem eqPs (a a' : Option Addr) (n c c' : Nat) (l : List (Int × Int)) (w : World) (h : SlP w a l) (h' : SlP w a' l) (hn : l.length = n) (hm : n ≤ maxLen) :
    Calls Try.prog 10 #[.slice a n c, .slice a' n c'] w fun e w' => e = .returned (.bool true) ∧ Below w.heap.size w w' := by
  have HS := hide h
  have HS' := hide h'
  have HN := hide hn
  clear h hn h'
  unfold maxLen at hm
  go_enter Try.func10, Try.ntmps10
  go_wp2
  go_loopw [5] (fun iv wr => ∃ (i : Nat), i ≤ n ∧ iv = .int .i64 i ∧ Hid (Below w.heap.size w wr)) (fun iv _ => n - (intOf iv).toNat)
  case atStart => exact ⟨0, Nat.zero_le _, rfl, hide (Below.refl _ _)⟩
  case round =>
    obtain ⟨i, hi, rfl, HB⟩ := hrel
    by_cases hlt : i < n
    · have hlt' : (i : Int) < (n : Int) := by omega
      rcases (unhide HS) with e | ⟨b, off, rfl, hb, hc⟩
      · exact absurd (unhide HN) (by rw [e]; simp; omega)
      have e0 := hc i (by rw [unhide HN]; exact hlt)
      rcases (unhide HS') with e | ⟨b', off', rfl, hb', hc'⟩
      · exact absurd (unhide HN) (by rw [e]; simp; omega)
      have f0 := hc' i (by rw [unhide HN]; exact hlt)
      obtain ⟨y, hy⟩ : ∃ y, y = l[i]'(by rw [unhide HN]; exact hlt) := ⟨_, rfl⟩
      rw [← hy] at e0 f0
      clear hy hc hc'
      have E0 : wr.cell? ⟨b, off + i * 2, none⟩ = some (.int .i64 y.1) := ((unhide HB).cell (p := ⟨b, off + i * 2, none⟩) hb).trans (e0.1)
      have E1 : wr.cell? ⟨b, off + i * 2 + 1, none⟩ = some (.int .i64 y.2) := ((unhide HB).cell (p := ⟨b, off + i * 2 + 1, none⟩) hb).trans (e0.2)
      have F0 : wr.cell? ⟨b', off' + i * 2, none⟩ = some (.int .i64 y.1) := ((unhide HB).cell (p := ⟨b', off' + i * 2, none⟩) hb').trans (f0.1)
      have F1 : wr.cell? ⟨b', off' + i * 2 + 1, none⟩ = some (.int .i64 y.2) := ((unhide HB).cell (p := ⟨b', off' + i * 2 + 1, none⟩) hb').trans (f0.2)
      clear e0 f0
      go_upto_region 6 with fail
      go_region_held3 (fun w' => w'.cell? ⟨b, off + i * 2, none⟩ = some (.int .i64 y.1) ∧ w'.cell? ⟨b, off + i * 2 + 1, none⟩ = some (.int .i64 y.2) ∧ w'.cell? ⟨b', off' + i * 2, none⟩ = some (.int .i64 y.1) ∧ w'.cell? ⟨b', off' + i * 2 + 1, none⟩ = some (.int .i64 y.2))
        (with_reducible (first | exact ⟨E0, E1, F0, F1⟩ | exact ⟨cdP E0, cdP E1, cdP F0, cdP F1⟩ | fail))
        (first
        | (go_at_call 24; refine (eqP y.1 y.2 _).mono ?_; rintro e w1 ⟨rfl, hb1⟩; have HB1 := hide (below_on (unhide HB) (below_of_drew hb1)); have hbx := below_of_drew hb1; replace E0 := cell_later hbx E0; replace E1 := cell_later hbx E1; replace F0 := cell_later hbx F0; replace F1 := cell_later hbx F1; clear hb1 hbx)
        | fail)
      clear E0 F0 E1 F1
      go_wp2
      go_roundw
      case rel => exact ⟨i + 1, by omega, by go_num, HB1⟩
      case measure => simp [intOf]; omega
    · obtain rfl : i = n := by omega
      go_wp2
      go_ret
      exact ⟨rfl, unhide HB⟩
/-- Points in a row of one's own, at block G. -/
structure OwP (w : World) (G n c : Nat) (l : List (Int × Int)) : Prop where
  row : ∃ M, w.ownsRow G 37 2 (.slice (some ⟨G, 0, none⟩) n c) n M ∧ ∀ i (h : i < l.length), M[i * 2]? = some (.int .i64 l[i].1) ∧ M[i * 2 + 1]? = some (.int .i64 l[i].2)
  len : l.length = n
theorem ownsRow_laterP {w w' : World} {G g n c size : Nat} {e : TypeId} {M : List Value} (h : w.ownsRow G e size (.slice (some ⟨g, 0, none⟩) n c) n M) (hb : Below w.heap.size w w') : w'.ownsRow G e size (.slice (some ⟨g, 0, none⟩) n c) n M := by
  refine ⟨h.1, ?_⟩
  rcases h.2 with ⟨h', _⟩ | ⟨g', cap, cur, hv, h1, hg, r⟩
  · simp at h'
  · refine .inr ⟨g', cap, cur, hv, h1, ?_, r⟩
    rw [hb.block g' (Array.getElem?_eq_some_iff.1 hg).1]
    exact hg
theorem OwP.later {w w' : World} {G n c : Nat} {l : List (Int × Int)} (h : OwP w G n c l) (hb : Below w.heap.size w w') : OwP w' G n c l := by
  obtain ⟨M, hr, hM⟩ := h.row
  exact ⟨⟨M, ownsRow_laterP hr hb, hM⟩, h.len⟩
theorem OwP.arg {w : World} {G n c : Nat} {l : List (Int × Int)} (h : OwP w G n c l) : ArP w (some ⟨G, 0, none⟩) n c l := by
  obtain ⟨M, hr, hM⟩ := h.row
  have hl := h.len
  rcases hr.2 with ⟨h', _⟩ | ⟨g', cap, cur, hv, h1, hg, r1, r2, r3⟩
  · simp at h'
  simp only [Value.slice.injEq, Option.some.injEq, Addr.mk.injEq, and_true, true_and] at hv
  obtain ⟨rfl, rfl⟩ := hv
  refine ⟨.inr ⟨G, 0, rfl, (Array.getElem?_eq_some_iff.1 hg).1, fun i hi => ?_⟩, hl, r1, r2⟩
  have hc := hM i hi
  refine ⟨?_, ?_⟩ <;> rw [Nat.zero_add, hr.cellAt _ (by omega)]
  · exact hc.1
  · exact hc.2
theorem but_rowP {w : World} {G k : Nat} {x y : Value} : But G (G + 1) w ((w.setCell ⟨G, k * 2, none⟩ x).setCell ⟨G, k * 2 + 1, none⟩ y) := (((But.refl _ _ _).set (p := ⟨G, k * 2, none⟩) (Nat.le_refl G) (Nat.lt_succ_self G) x).set (p := ⟨G, k * 2 + 1, none⟩) (Nat.le_refl G) (Nat.lt_succ_self G) y)
theorem infoPt : (Try.prog.info? 37).map (fun i => (i.zero, i.size, i.bytes)) = some (some (.agg #[.int .i64 0, .int .i64 0]), 2, 16) := by kernel_rfl
theorem set_rowP {M : List Value} {us : List (Int × Int)} {n k : Nat} {x y : Int} (hM : M.length = n * 2) (hk : k < n) (hu : us.length = k) (h : ∀ i (h : i < us.length), M[i * 2]? = some (.int .i64 us[i].1) ∧ M[i * 2 + 1]? = some (.int .i64 us[i].2)) :
    ∀ i (h : i < (us ++ [(x, y)]).length), ((M.set (k * 2) (.int .i64 x)).set (k * 2 + 1) (.int .i64 y))[i * 2]? = some (.int .i64 (us ++ [(x, y)])[i].1) ∧ ((M.set (k * 2) (.int .i64 x)).set (k * 2 + 1) (.int .i64 y))[i * 2 + 1]? = some (.int .i64 (us ++ [(x, y)])[i].2) := by
  intro i hi
  by_cases e : i < k
  · have hi' : i < us.length := by omega
    have h1 := h i hi'
    rw [List.getElem_append_left hi']
    simp only [List.getElem?_set]
    refine ⟨?_, ?_⟩
    · rw [if_neg (by omega), if_neg (by omega)]; exact h1.1
    · rw [if_neg (by omega), if_neg (by omega)]; exact h1.2
  · obtain rfl : i = k := by simp at hi; omega
    subst hu
    rw [List.getElem_append_right (Nat.le_refl _)]
    simp only [Nat.sub_self, List.getElem_cons_zero]
    refine ⟨?_, ?_⟩
    · simp only [List.getElem?_set, List.length_set]; rw [if_neg (by omega)]; rw [if_pos trivial, if_pos (by omega)]
    · simp only [List.getElem?_set, List.length_set]; rw [if_pos trivial, if_pos (by omega)]
set_option maxHeartbeats 4000000 in
theorem toPs (a : Option Addr) (n c : Nat) (l : List (Int × Int)) (w : World) (h : SlP w a l) (hn : l.length = n) (h1 : n ≤ 1048576) :
    Calls Try.prog 7 #[.slice a n c] w fun e w' => e = .returned (.slice (some ⟨w.heap.size, 0, none⟩) n n) ∧ Below w.heap.size w w' ∧ OwP w' w.heap.size n n l := by
  obtain ⟨i0, hi, hz0, hz1, hz2⟩ := info_parts infoPt
  have HS := hide h
  have HN := hide hn
  clear h hn
  go_enter Try.func7, Try.ntmps7
  go_wp2_with (at_make; refine wpList_make_full _ rfl _ _ 27 rfl w.heap.size 37 i0 (.agg #[.int .i64 0, .int .i64 0]) 2 Try.underlying27 hi hz0 hz1 .i64 .i64 _ _ n rfl rfl rfl rfl ?c1 ?c2 ?c3 ?_)
  case c1 => rw [hz2]; omega
  case c2 => unfold maxLen; omega
  case c3 => exact Nat.le_refl _
  intro w1 hown hgrow
  have hb0 : Below w.heap.size w w1 := (Below.refl _ _).grown hgrow (Nat.le_refl _) (fun k e => by cases e)
  have P0 : Hid (∃ M, w1.ownsRow w.heap.size 37 2 (.slice (some ⟨w.heap.size, 0, none⟩) n n) n M) := hide ⟨_, hown⟩
  clear hown hgrow hi hz0 hz1 hz2
  have HB0 := hide hb0
  clear hb0
  go_wp2
  go_loopw [4] (fun iv wr => ∃ k : Nat, k ≤ n ∧ iv = .int .i64 k ∧ Hid (∃ M, wr.ownsRow w.heap.size 37 2 (.slice (some ⟨w.heap.size, 0, none⟩) n n) n M ∧ ∀ i (h : i < (l.take k).length), M[i * 2]? = some (.int .i64 (l.take k)[i].1) ∧ M[i * 2 + 1]? = some (.int .i64 (l.take k)[i].2)) ∧ Hid (Below w.heap.size w wr)) (fun iv _ => n - (intOf iv).toNat)
  case atStart =>
    obtain ⟨M, hM⟩ := unhide P0
    exact ⟨0, Nat.zero_le _, rfl, hide ⟨M, hM, fun i hi => absurd hi (by simp)⟩, HB0⟩
  case round =>
    clear P0 HB0
    obtain ⟨k, hk, rfl, EM, HB⟩ := hrel
    by_cases hlt : k < n
    · have hlt' : (k : Int) < (n : Int) := by omega
      rcases (unhide HS) with e | ⟨b, off, rfl, hb, hc⟩
      · exact absurd (unhide HN) (by rw [e]; simp; omega)
      have e0 := hc k (by rw [unhide HN]; exact hlt)
      obtain ⟨y, hy⟩ : ∃ y, y = l[k]'(by rw [unhide HN]; exact hlt) := ⟨_, rfl⟩
      rw [← hy] at e0
      have TK : Hid (l.take (k + 1) = l.take k ++ [(y.1, y.2)]) := hide (by have h := take_succP (l := l) (i := k) (by rw [unhide HN]; exact hlt); rw [← hy] at h; exact h)
      clear hy hc
      have E0 : wr.cell? ⟨b, off + k * 2, none⟩ = some (.int .i64 y.1) := ((unhide HB).cell (p := ⟨b, off + k * 2, none⟩) hb).trans (e0.1)
      have E1 : wr.cell? ⟨b, off + k * 2 + 1, none⟩ = some (.int .i64 y.2) := ((unhide HB).cell (p := ⟨b, off + k * 2 + 1, none⟩) hb).trans (e0.2)
      clear e0
      go_wp2_with fail
      refine (toP y.1 y.2 _).mono ?_
      rintro e w2 ⟨rfl, hb2⟩
      have HB1 := hide (below_on (unhide HB) hb2)
      obtain ⟨M, hM, hL⟩ := unhide EM
      replace hM := ownsRow_laterP hM hb2
      have old0 : ∃ x, w2.cell? ⟨w.heap.size, k * 2, none⟩ = some x := by
        have hl := hM.1
        rw [hM.cellAt _ (by omega)]
        exact ⟨_, List.getElem?_eq_getElem (by omega)⟩
      obtain ⟨x0, o0⟩ := old0
      have old1 : ∃ x, w2.cell? ⟨w.heap.size, k * 2 + 1, none⟩ = some x := by
        have hl := hM.1
        rw [hM.cellAt _ (by omega)]
        exact ⟨_, List.getElem?_eq_getElem (by omega)⟩
      obtain ⟨x1, o1⟩ := old1
      have fr : ∀ o, w2.frozen? ⟨w.heap.size, o, none⟩ = false := fun o => hM.frozenAt o
      have HM := hide hM
      have HL := hide hL
      clear hM hL hb2 EM E0 E1
      go_wp2
      go_roundw
      case rel =>
        have hM := unhide HM
        refine ⟨k + 1, by omega, by go_num, hide ⟨_, (World.ownsRow.stored (World.ownsRow.stored hM (k * 2) (.int .i64 y.1)).1 (k * 2 + 1) (.int .i64 y.2)).1, ?_⟩, hide ?_⟩
        · rw [unhide TK]
          exact set_rowP hM.1 hlt (by rw [List.length_take, unhide HN]; omega) (unhide HL)
        · exact but_rowP.below (unhide HB1) (Nat.le_refl _) (by have := (unhide HB1).size; omega)
      case measure => simp [intOf]; omega
    · obtain rfl : k = n := by omega
      go_wp2
      go_ret
      obtain ⟨M, hM, hL⟩ := unhide EM
      rw [← unhide HN, List.take_length] at hL
      exact ⟨rfl, unhide HB, ⟨M, hM, hL⟩, unhide HN⟩
end Go.Proofs.Ytokajpeopijneaa
namespace Go.Proofs.Ytokajpeopijneaa
open Go.RowKit
set_option linter.unusedVariables false
set_option maxRecDepth 100000
set_option linter.unusedSimpArgs false

def inR (n lo hi : Int) : Bool := decide (lo ≤ n) && decide (n ≤ hi)
theorem inS8 (n lo hi : Int) (w : World) :
    Calls Try.prog 16 #[.int .i64 n, .int .i64 lo, .int .i64 hi] w fun e w' => e = .returned (.bool (inR n lo hi)) ∧ w' = w := by
  unfold inR
  by_cases h1 : lo ≤ n
  · by_cases h2 : n ≤ hi
    · have d1 : decide (lo ≤ n) = true := decide_eq_true h1
      have d2 : decide (n ≤ hi) = true := decide_eq_true h2
      go_enter Try.func16, Try.ntmps16
      go_wp2
      go_ret
      exact ⟨by first | rfl | (rw [d1, d2]; rfl), rfl⟩
    · have d1 : decide (lo ≤ n) = true := decide_eq_true h1
      have d2 : decide (n ≤ hi) = false := decide_eq_false h2
      go_enter Try.func16, Try.ntmps16
      go_wp2
      go_ret
      exact ⟨by first | rfl | (rw [d1, d2]; rfl), rfl⟩
  · have d1 : decide (lo ≤ n) = false := decide_eq_false h1
    go_enter Try.func16, Try.ntmps16
    go_wp2
    go_ret
    exact ⟨by first | rfl | (rw [d1]; rfl), rfl⟩
def gPt (p : Int × Int) : Bool := inR p.1 (-1000) 1000 && inR p.2 (-1000) 1000
theorem goodPS (x y : Int) (w : World) :
    Calls Try.prog 29 #[.agg #[.int .i64 x, .int .i64 y]] w fun e w' => e = .returned (.bool (gPt (x, y))) ∧ Below w.heap.size w w' := by
  unfold gPt
  cases h1 : inR x (-1000) 1000
  · have C1 := hide (fun w => inS8 x (-1000) 1000 w)
    rw [h1] at C1
    go_enter Try.func29, Try.ntmps29
    go_wp2_with fail
    refine (unhide C1 _).mono ?_
    rintro e w1 ⟨rfl, rfl⟩
    go_wp2_with fail
    go_ret
    exact ⟨rfl, (Below.refl _ _).alloc (Nat.le_refl _) _⟩
  · have C1 := hide (fun w => inS8 x (-1000) 1000 w)
    have C2 := hide (fun w => inS8 y (-1000) 1000 w)
    rw [h1] at C1
    generalize inR y (-1000) 1000 = r at *
    go_enter Try.func29, Try.ntmps29
    go_wp2_with fail
    refine (unhide C1 _).mono ?_
    rintro e w1 ⟨rfl, rfl⟩
    go_wp2_with fail
    refine (unhide C2 _).mono ?_
    rintro e w1 ⟨rfl, rfl⟩
    go_wp2_with fail
    go_ret
    exact ⟨by cases r <;> rfl, (Below.refl _ _).alloc (Nat.le_refl _) _⟩
set_option maxHeartbeats 2000000 in
theorem ptsS (a : Option Addr) (n c : Nat) (l : List (Int × Int)) (w : World) (h : SlP w a l) (hn : l.length = n) (hm : n ≤ maxLen) :
    Calls Try.prog 17 #[.slice a n c] w fun e w' => e = .returned (.bool (l.all gPt)) ∧ Below w.heap.size w w' := by
  have HS := hide h
  have HN := hide hn
  clear h hn
  unfold maxLen at hm
  go_enter Try.func17, Try.ntmps17
  go_wp2
  go_loopw [7] (fun iv wr => ∃ i : Nat, i ≤ n ∧ iv = .int .i64 i ∧ Hid ((l.take i).all gPt = true) ∧ Hid (Below w.heap.size w wr)) (fun iv _ => n - (intOf iv).toNat)
  case atStart => exact ⟨0, Nat.zero_le _, rfl, hide rfl, hide (Below.refl _ _)⟩
  case round =>
    obtain ⟨i, hi, rfl, HA, HB⟩ := hrel
    by_cases hlt : i < n
    · have hlt' : (i : Int) < (n : Int) := by omega
      rcases (unhide HS) with e | ⟨b, off, rfl, hb, hc⟩
      · exact absurd (unhide HN) (by rw [e]; simp; omega)
      have e0 := hc i (by rw [unhide HN]; exact hlt)
      obtain ⟨y, hy⟩ : ∃ y, y = l[i]'(by rw [unhide HN]; exact hlt) := ⟨_, rfl⟩
      rw [← hy] at e0
      have MY : Hid (y ∈ l) := hide (by rw [hy]; exact List.getElem_mem _)
      have TK : Hid ((l.take (i + 1)).all gPt = gPt y) := hide (by rw [take_succP (by rw [unhide HN]; exact hlt), List.all_append, unhide HA, ← hy]; simp)
      clear hy hc
      have E0 : wr.cell? ⟨b, off + i * 2, none⟩ = some (.int .i64 y.1) := ((unhide HB).cell (p := ⟨b, off + i * 2, none⟩) hb).trans (e0.1)
      have E1 : wr.cell? ⟨b, off + i * 2 + 1, none⟩ = some (.int .i64 y.2) := ((unhide HB).cell (p := ⟨b, off + i * 2 + 1, none⟩) hb).trans (e0.2)
      clear e0
      have C1 := hide (fun w => goodPS y.1 y.2 w)
      cases hg : gPt y
      · have hg2 : gPt (y.1, y.2) = false := hg
        rw [hg2] at C1
        have NA : Hid (l.all gPt = false) := hide (by rw [List.all_eq_false]; exact ⟨y, unhide MY, by rw [hg]; simp⟩)
        go_wp2_with fail
        refine (unhide C1 _).mono ?_
        rintro e w1 ⟨rfl, hb1⟩
        have HB1 := hide (below_on (below_on (unhide HB) ((Below.refl _ _).alloc (Nat.le_refl _) _)) hb1)
        clear hb1 E0 E1
        go_wp2
        go_ret
        exact ⟨by rw [unhide NA]; rfl, unhide HB1⟩
      · have hg2 : gPt (y.1, y.2) = true := hg
        rw [hg2] at C1
        go_wp2_with fail
        refine (unhide C1 _).mono ?_
        rintro e w1 ⟨rfl, hb1⟩
        have HB1 := hide (below_on (below_on (unhide HB) ((Below.refl _ _).alloc (Nat.le_refl _) _)) hb1)
        clear hb1 E0 E1
        go_wp2
        go_roundw
        case rel => exact ⟨i + 1, by omega, by go_num, hide (by rw [unhide TK, hg]), HB1⟩
        case measure => simp [intOf]; omega
    · obtain rfl : i = n := by omega
      have EA : Hid (l.all gPt = true) := hide (by have := unhide HA; rw [← unhide HN, List.take_length] at this; exact this)
      go_wp2
      go_ret
      exact ⟨by rw [unhide EA]; rfl, unhide HB⟩
def crs (a b c : Int × Int) : Int := (b.1 - a.1) * (c.2 - a.2) - (b.2 - a.2) * (c.1 - a.1)
def sgZ (n : Int) : Int := if 0 < n then 1 else if n < 0 then -1 else 0
/-- A point of the document's, or one a little beyond. -/
structure Near (p : Int × Int) : Prop where
  x0 : -100000 ≤ p.1
  x1 : p.1 ≤ 100000
  y0 : -100000 ≤ p.2
  y1 : p.2 ≤ 100000
theorem near_of {p : Int × Int} (h : gPt p = true) : Near p := by
  simp [gPt, inR] at h
  exact ⟨by omega, by omega, by omega, by omega⟩
theorem mul_bd {u v : Int} (h1 : -200000 ≤ u) (h2 : u ≤ 200000) (h3 : -200000 ≤ v) (h4 : v ≤ 200000) : -40000000000 ≤ u * v ∧ u * v ≤ 40000000000 := by
  have h := Nat.mul_le_mul (show u.natAbs ≤ 200000 by omega) (show v.natAbs ≤ 200000 by omega)
  rw [← Int.natAbs_mul] at h
  omega
theorem al3 (w : World) (o p q : Obj) : Below w.heap.size w (((w.alloc o).alloc p).alloc q) := (((Below.refl _ _).alloc (Nat.le_refl _) _).alloc (by simp) _).alloc (by simp; omega) _
theorem crs_bd {a b c : Int × Int} (ha : Near a) (hb : Near b) (hc : Near c) : -80000000000 ≤ crs a b c ∧ crs a b c ≤ 80000000000 := by
  obtain ⟨a0, a1, a2, a3⟩ := ha
  obtain ⟨b0, b1, b2, b3⟩ := hb
  obtain ⟨c0, c1, c2, c3⟩ := hc
  have m1 := @mul_bd (b.1 - a.1) (c.2 - a.2) (by omega) (by omega) (by omega) (by omega)
  have m2 := @mul_bd (b.2 - a.2) (c.1 - a.1) (by omega) (by omega) (by omega) (by omega)
  unfold crs
  omega
/-- What three points tell. -/
def orV (a b c : Int × Int) : Int := if [a, b, c].all gPt then sgZ (crs a b c) else 0
theorem cellsP3 (w : World) (a b c : Int × Int) : SlP (w.alloc (.cells #[.int .i64 a.1, .int .i64 a.2, .int .i64 b.1, .int .i64 b.2, .int .i64 c.1, .int .i64 c.2] 37)) (some ⟨w.heap.size, 0, none⟩) [a, b, c] := by
  refine .inr ⟨w.heap.size, 0, rfl, by simp, fun i hi => ?_⟩
  match i, hi with
  | 0, _ => exact ⟨by simp [go_sem], by simp [go_sem]⟩
  | 1, _ => exact ⟨by simp [go_sem], by simp [go_sem]⟩
  | 2, _ => exact ⟨by simp [go_sem], by simp [go_sem]⟩
def btw (a b x : Int) : Bool := (decide (a ≤ x) && decide (x ≤ b)) || (decide (b ≤ x) && decide (x ≤ a))
def onV (a b p : Int × Int) : Bool := decide (crs a b p = 0) && (btw a.1 b.1 p.1 && btw a.2 b.2 p.2)
/-- Whether a point is on a segment, as told. -/
def osV (a b c : Int × Int) : Bool := if [a, b, c].all gPt then onV a b c else false
def gcdZ (a b : Int) : Int := ((Nat.gcd a.natAbs b.natAbs : Nat) : Int)
def gcI (a b : Int) : Bool := inR a (-10000) 10000 && inR b (-10000) 10000
theorem inR_le {n lo hi : Int} (h : inR n lo hi = true) : lo ≤ n ∧ n ≤ hi := by simpa [inR] using h
def wayB (l : List (Int × Int)) : Bool := inR l.length 3 12 && l.all gPt
theorem wayS (a : Option Addr) (n c : Nat) (l : List (Int × Int)) (w : World) (h : SlP w a l) (hn : l.length = n) (hm : n ≤ maxLen) :
    Calls Try.prog 27 #[.slice a n c] w fun e w' => e = .returned (.bool (wayB l)) ∧ Below w.heap.size w w' := by
  have C1 := hide (fun w => inS8 n 3 12 w)
  have C2 := hide (fun w (k : SlP w a l) => ptsS a n c l w k hn hm)
  have HS := hide h
  unfold wayB
  rw [hn]
  clear h hn hm
  cases h1 : inR (n : Int) 3 12
  · rw [h1] at C1
    go_enter Try.func27, Try.ntmps27
    go_wp2_with fail
    refine (unhide C1 _).mono ?_
    rintro e w1 ⟨rfl, rfl⟩
    go_wp2_with fail
    go_ret
    exact ⟨rfl, Below.refl _ _⟩
  · rw [h1] at C1
    generalize l.all gPt = r at *
    go_enter Try.func27, Try.ntmps27
    go_wp2_with fail
    refine (unhide C1 _).mono ?_
    rintro e w1 ⟨rfl, rfl⟩
    go_wp2_with fail
    refine (unhide C2 _ (unhide HS)).mono ?_
    rintro e w2 ⟨rfl, hb⟩
    go_wp2_with fail
    go_ret
    exact ⟨by cases r <;> rfl, hb⟩
/-- The point behind one. -/
def nxt (l : List (Int × Int)) (i : Nat) : Int × Int := l.getD ((i + 1) % l.length) (0, 0)
theorem getD_gt {l : List (Int × Int)} {i : Nat} (h : i < l.length) : l.getD i (0, 0) = l[i] := by rw [List.getD_eq_getElem?_getD, List.getElem?_eq_getElem h]; rfl
theorem nxt_mem {l : List (Int × Int)} (h : 0 < l.length) (i : Nat) : nxt l i ∈ l := by
  unfold nxt
  rw [getD_gt (Nat.mod_lt _ h)]
  exact List.getElem_mem _
def arS (l : List (Int × Int)) : Nat → Int
  | 0 => 0
  | k + 1 => arS l k + ((l.getD k (0, 0)).1 * (nxt l k).2 - (nxt l k).1 * (l.getD k (0, 0)).2)
theorem cr_bd {p q : Int × Int} (hp : Near p) (hq : Near q) : -80000000000 ≤ p.1 * q.2 - q.1 * p.2 ∧ p.1 * q.2 - q.1 * p.2 ≤ 80000000000 := by
  have m1 := @mul_bd p.1 q.2 (by have := hp.x0; omega) (by have := hp.x1; omega) (by have := hq.y0; omega) (by have := hq.y1; omega)
  have m2 := @mul_bd q.1 p.2 (by have := hq.x0; omega) (by have := hq.x1; omega) (by have := hp.y0; omega) (by have := hp.y1; omega)
  omega
theorem arS_bd {l : List (Int × Int)} (h : ∀ p ∈ l, Near p) : ∀ k, k ≤ l.length → -((k : Int) * 80000000000) ≤ arS l k ∧ arS l k ≤ (k : Int) * 80000000000
  | 0, _ => by simp [arS]
  | k + 1, hk => by
    have ih := arS_bd h k (by omega)
    have b := cr_bd (h (l.getD k (0, 0)) (by rw [getD_gt (by omega)]; exact List.getElem_mem _)) (h _ (nxt_mem (by omega) k))
    unfold arS
    omega
theorem gcd_bd {a b : Int} (h0 : -200000 ≤ a) (h1 : a ≤ 200000) (h2 : -200000 ≤ b) (h3 : b ≤ 200000) : 0 ≤ gcdZ a b ∧ gcdZ a b ≤ 200000 := by
  unfold gcdZ
  refine ⟨by omega, ?_⟩
  by_cases ha : a.natAbs = 0
  · rw [ha, Nat.gcd_zero_left]; omega
  · have := Nat.gcd_le_left b.natAbs (show 0 < a.natAbs by omega)
    omega
def boS (l : List (Int × Int)) : Nat → Int
  | 0 => 0
  | k + 1 => boS l k + gcdZ ((nxt l k).1 - (l.getD k (0, 0)).1) ((nxt l k).2 - (l.getD k (0, 0)).2)
theorem boS_bd {l : List (Int × Int)} (h : ∀ p ∈ l, Near p) : ∀ k, k ≤ l.length → 0 ≤ boS l k ∧ boS l k ≤ (k : Int) * 200000
  | 0, _ => by simp [boS]
  | k + 1, hk => by
    have ih := boS_bd h k (by omega)
    have np := h (l.getD k (0, 0)) (by rw [getD_gt (by omega)]; exact List.getElem_mem _)
    have nq := h _ (nxt_mem (show 0 < l.length by omega) k)
    have n0 := np.x0
    have n1 := np.x1
    have n2 := np.y0
    have n3 := np.y1
    have n4 := nq.x0
    have n5 := nq.x1
    have n6 := nq.y0
    have n7 := nq.y1
    have b := gcd_bd (a := (nxt l k).1 - (l.getD k (0, 0)).1) (b := (nxt l k).2 - (l.getD k (0, 0)).2) (by omega) (by omega) (by omega) (by omega)
    unfold boS
    omega
theorem way_parts {l : List (Int × Int)} (h : wayB l = true) : (3 ≤ l.length ∧ l.length ≤ 12) ∧ ∀ p ∈ l, Near p := by
  unfold wayB at h
  have h2 := (Bool.and_eq_true _ _).mp h
  have h3 := inR_le h2.1
  exact ⟨by omega, fun p hp => near_of (List.all_eq_true.1 h2.2 p hp)⟩
end Go.Proofs.Ytokajpeopijneaa
namespace Go.Proofs.Ytokajpeopijneaa
open Go.RowKit
set_option linter.unusedVariables false
set_option maxRecDepth 100000
set_option linter.unusedSimpArgs false

/-- Whether two segments have a point in common, as it is reckoned. -/
def meV (a b c d : Int × Int) : Bool := if onV a b c || onV a b d || onV c d a || onV c d b then true else decide (sgZ (crs a b c) * sgZ (crs a b d) < 0) && decide (sgZ (crs c d a) * sgZ (crs c d b) < 0)
theorem sg_bd (n : Int) : -1 ≤ sgZ n ∧ sgZ n ≤ 1 := by
  unfold sgZ
  split
  · omega
  · split <;> omega
theorem sg_mul {u v : Int} (h : -1 ≤ u ∧ u ≤ 1) (k : -1 ≤ v ∧ v ≤ 1) : IntKind.i64.wrap (u * v) = u * v := by
  have m := @mul_bd u v (by omega) (by omega) (by omega) (by omega)
  rw [IntKind.wrap_i64]; omega
theorem al4 (w : World) (o p q r : Obj) : Below w.heap.size w ((((w.alloc o).alloc p).alloc q).alloc r) := (al3 w o p q).alloc (by simp; omega) _
theorem cellsP4 (w : World) (a b c d : Int × Int) : SlP (w.alloc (.cells #[.int .i64 a.1, .int .i64 a.2, .int .i64 b.1, .int .i64 b.2, .int .i64 c.1, .int .i64 c.2, .int .i64 d.1, .int .i64 d.2] 37)) (some ⟨w.heap.size, 0, none⟩) [a, b, c, d] := by
  refine .inr ⟨w.heap.size, 0, rfl, by simp, fun i hi => ?_⟩
  match i, hi with
  | 0, _ => exact ⟨by simp [go_sem], by simp [go_sem]⟩
  | 1, _ => exact ⟨by simp [go_sem], by simp [go_sem]⟩
  | 2, _ => exact ⟨by simp [go_sem], by simp [go_sem]⟩
  | 3, _ => exact ⟨by simp [go_sem], by simp [go_sem]⟩
def smV (a b c d : Int × Int) : Bool := if [a, b, c, d].all gPt then meV a b c d else false
end Go.Proofs.Ytokajpeopijneaa
namespace Go.Proofs.Ytokajpeopijneaa
open Go.RowKit
set_option linter.unusedVariables false
set_option maxRecDepth 100000
set_option linter.unusedSimpArgs false

/-- Points that lie in a block below B. -/
def SlB8 (w : World) (B : Nat) (a : Option Addr) (l : List (Int × Int)) : Prop := l = [] ∨ ∃ b off, a = some ⟨b, off, none⟩ ∧ b < B ∧ b < w.heap.size ∧ ∀ i (h : i < l.length), w.cell? ⟨b, off + i * 2, none⟩ = some (.int .i64 l[i].1) ∧ w.cell? ⟨b, off + i * 2 + 1, none⟩ = some (.int .i64 l[i].2)
theorem SlP.below8 {w : World} {a : Option Addr} {l : List (Int × Int)} (h : SlP w a l) : SlB8 w w.heap.size a l := by
  rcases h with h | ⟨b, off, e, h1, h2⟩
  · exact .inl h
  · exact .inr ⟨b, off, e, h1, h1, h2⟩
theorem SlB8.sl {w : World} {B : Nat} {a : Option Addr} {l : List (Int × Int)} (h : SlB8 w B a l) : SlP w a l := by
  rcases h with h | ⟨b, off, e, h1, h2, h3⟩
  · exact .inl h
  · exact .inr ⟨b, off, e, h2, h3⟩
theorem SlB8.keep {w w' : World} {B lo hi : Nat} {a : Option Addr} {l : List (Int × Int)} (h : SlB8 w B a l) (hb : But lo hi w w') (hB : B ≤ lo) : SlB8 w' B a l := by
  rcases h with h | ⟨b, off, e, h1, h2, h3⟩
  · exact .inl h
  · exact .inr ⟨b, off, e, h1, Nat.lt_of_lt_of_le h2 hb.size, fun i hi => ⟨hb.cell (h3 i hi).1 (.inl (by omega)), hb.cell (h3 i hi).2 (.inl (by omega))⟩⟩
theorem SlB8.later {w w' : World} {B : Nat} {a : Option Addr} {l : List (Int × Int)} (h : SlB8 w B a l) (hb : Below w.heap.size w w') : SlB8 w' B a l := h.keep (But.of_below (lo := B) (hi := B) hb) (Nat.le_refl _)
theorem OwP.keep {w w' : World} {G n c lo hi : Nat} {l : List (Int × Int)} (h : OwP w G n c l) (hb : But lo hi w w') (hG : G < lo ∨ hi ≤ G) : OwP w' G n c l := by
  obtain ⟨M, hr, hM⟩ := h.row
  refine ⟨⟨M, ⟨hr.1, ?_⟩, hM⟩, h.len⟩
  rcases hr.2 with ⟨h', _⟩ | ⟨g', cap, cur, hv, h1, hg, r⟩
  · simp at h'
  · refine .inr ⟨g', cap, cur, hv, h1, ?_, r⟩
    have e : g' = G := by simp only [Value.slice.injEq, Option.some.injEq, Addr.mk.injEq, and_true, true_and] at hv; exact hv.1.symm
    subst e
    rw [hb.block _ (Array.getElem?_eq_some_iff.1 hg).1 hG]
    exact hg
theorem OwP.lt {w : World} {G n c : Nat} {l : List (Int × Int)} (h : OwP w G n c l) : G < w.heap.size := by
  obtain ⟨M, hr, _⟩ := h.row
  rcases hr.2 with ⟨h', _⟩ | ⟨g', cap, cur, hv, h1, hg, r⟩
  · simp at h'
  · have e : g' = G := by simp only [Value.slice.injEq, Option.some.injEq, Addr.mk.injEq, and_true, true_and] at hv; exact hv.1.symm
    subst e
    exact (Array.getElem?_eq_some_iff.1 hg).1
/-- n points that bear the numbers from k on. -/
def mks (k : Int) (n : Nat) : List (Int × Int) := (List.range n).map (fun i : Nat => (k + 2 * (i : Int), k + 2 * (i : Int) + 1))
theorem mks_len (k : Int) (n : Nat) : (mks k n).length = n := by simp [mks]
theorem mks_at {k : Int} {n i : Nat} (h : i < (mks k n).length) : (mks k n)[i] = (k + 2 * (i : Int), k + 2 * (i : Int) + 1) := by simp [mks]
set_option maxHeartbeats 4000000 in
theorem markPs (G n c : Nat) (k : Int) (l : List (Int × Int)) (w : World) (h : OwP w G n c l) (h1 : n ≤ 1048576) (k0 : 0 ≤ k) (k1 : k ≤ 1000000) :
    Calls Try.prog 11 #[.slice (some ⟨G, 0, none⟩) n c, .int .i64 k] w fun e w' => e = .returned (.int .i64 (k + 2 * n)) ∧ But G (G + 1) w w' ∧ OwP w' G n c (mks k n) := by
  have R0 := hide h.row
  clear h
  go_enter Try.func11, Try.ntmps11
  go_wp2
  go_loopw [1, 5] (fun kv iv wr => ∃ i : Nat, i ≤ n ∧ iv = .int .i64 i ∧ kv = .int .i64 (k + 2 * i) ∧ Hid (But G (G + 1) w wr) ∧ Hid (∃ M, wr.ownsRow G 37 2 (.slice (some ⟨G, 0, none⟩) n c) n M ∧ ∀ j (h : j < (mks k i).length), M[j * 2]? = some (.int .i64 (mks k i)[j].1) ∧ M[j * 2 + 1]? = some (.int .i64 (mks k i)[j].2))) (fun _ iv _ => n - (intOf iv).toNat)
  case atStart =>
    obtain ⟨M, hM, _⟩ := unhide R0
    exact ⟨0, Nat.zero_le _, rfl, by simp, hide (But.refl _ _ _), hide ⟨M, hM, fun j hj => absurd hj (by simp [mks])⟩⟩
  case round =>
    obtain ⟨i, hi, rfl, rfl, HB, EM⟩ := hrel
    by_cases hlt : i < n
    · have hlt' : (i : Int) < (n : Int) := by omega
      obtain ⟨M, hM, hL⟩ := unhide EM
      have old0 : ∃ x, wr.cell? ⟨G, i * 2, none⟩ = some x := by
        have hl := hM.1
        rw [hM.cellAt _ (by omega)]
        exact ⟨_, List.getElem?_eq_getElem (by omega)⟩
      obtain ⟨x0, o0⟩ := old0
      have old1 : ∃ x, wr.cell? ⟨G, i * 2 + 1, none⟩ = some x := by
        have hl := hM.1
        rw [hM.cellAt _ (by omega)]
        exact ⟨_, List.getElem?_eq_getElem (by omega)⟩
      obtain ⟨x1, o1⟩ := old1
      have fr : ∀ o, wr.frozen? ⟨G, o, none⟩ = false := fun o => hM.frozenAt o
      have HM := hide hM
      have HL := hide hL
      have v1 : IntKind.i64.wrap (k + 2 * (i : Int) + 1) = k + 2 * (i : Int) + 1 := by rw [IntKind.wrap_i64]; omega
      have v2 : IntKind.i64.wrap (k + 2 * (i : Int) + 1 + 1) = k + 2 * (i : Int) + 1 + 1 := by rw [IntKind.wrap_i64]; omega
      clear hM hL EM
      go_wp2
      go_roundw
      case rel =>
        have hM := unhide HM
        refine ⟨i + 1, by omega, by go_num, by congr 1; omega, hide ((unhide HB).trans but_rowP), hide ⟨_, (World.ownsRow.stored (World.ownsRow.stored hM (i * 2) (.int .i64 (k + 2 * (i : Int)))).1 (i * 2 + 1) (.int .i64 (k + 2 * (i : Int) + 1))).1, ?_⟩⟩
        have em : mks k (i + 1) = mks k i ++ [(k + 2 * (i : Int), k + 2 * (i : Int) + 1)] := by simp [mks, List.range_succ]
        rw [em]
        exact set_rowP hM.1 hlt (mks_len k i) (unhide HL)
      case measure => simp [intOf]; omega
    · obtain rfl : i = n := by omega
      go_wp2
      go_ret
      exact ⟨rfl, unhide HB, unhide EM, mks_len k i⟩
/-- An answer that is a slice of points of the call's own. -/
structure RtP (B : Nat) (w : World) (a : Option Addr) (n c : Nat) (l : List (Int × Int)) : Prop where
  len : l.length = n
  own : (n = 0) ∨ ∃ G, a = some ⟨G, 0, none⟩ ∧ B ≤ G ∧ OwP w G n c l
theorem RtP.later {B : Nat} {w w' : World} {a : Option Addr} {n c : Nat} {l : List (Int × Int)} (h : RtP B w a n c l) (hb : Below w.heap.size w w') : RtP B w' a n c l := by
  refine ⟨h.len, ?_⟩
  rcases h.own with h0 | ⟨G, e, hB, ho⟩
  · exact .inl h0
  · exact .inr ⟨G, e, hB, ho.later hb⟩
theorem RtP.keep {B G : Nat} {w w' : World} {a : Option Addr} {n c : Nat} {l : List (Int × Int)} (h : RtP B w a n c l) (hb : But G (G + 1) w w') (hG : G < B) : RtP B w' a n c l := by
  refine ⟨h.len, ?_⟩
  rcases h.own with h0 | ⟨G', e, hB, ho⟩
  · exact .inl h0
  · exact .inr ⟨G', e, hB, ho.keep hb (.inr (by omega))⟩
theorem RtP.sl {B : Nat} {w : World} {a : Option Addr} {n c : Nat} {l : List (Int × Int)} (h : RtP B w a n c l) : SlP w a l := by
  rcases h.own with h0 | ⟨G, rfl, hB, ho⟩
  · exact .inl (List.length_eq_zero_iff.1 (h.len.trans h0))
  · exact ho.arg.sl
theorem below_but8 {B : Nat} {w w' : World} (h : Below B w w') {hi : Nat} (hh : w.heap.size ≤ hi) : But B hi w w' := ⟨h.os, h.tape, h.output, h.size, fun k hk hj => h.block k (by omega)⟩
/-- Marks of an answer: what lies below B stays. -/
theorem markRt (B : Nat) (a : Option Addr) (n c : Nat) (k : Int) (l : List (Int × Int)) (w : World) (h : RtP B w a n c l) (h1 : n ≤ 1048576) (k0 : 0 ≤ k) (k1 : k ≤ 1000000) (hB : B ≤ w.heap.size) :
    Calls Try.prog 11 #[.slice a n c, .int .i64 k] w fun e w' => e = .returned (.int .i64 (k + 2 * n)) ∧ Below B w w' ∧ RtP B w' a n c (mks k n) := by
  rcases h.own with h0 | ⟨G, rfl, hG, ho⟩
  · subst h0
    go_enter Try.func11, Try.ntmps11
    go_wp2
    refine wp_loop_rounds 1 ?_
    rw [rounds_succ]
    go_wp2
    go_ret
    exact ⟨by simp, Below.refl _ _, ⟨rfl, .inl rfl⟩⟩
  · refine (markPs G n c k l w ho h1 k0 k1).mono ?_
    rintro e w1 ⟨rfl, hb, o1⟩
    exact ⟨rfl, hb.below (Below.refl _ _) hG hB, ⟨mks_len k n, .inr ⟨G, rfl, hG, o1⟩⟩⟩
end Go.Proofs.Ytokajpeopijneaa
namespace Go.Proofs.Ytokajpeopijneaa
open Go.RowKit
set_option linter.unusedVariables false
set_option maxRecDepth 100000
set_option linter.unusedSimpArgs false

def flatP (l : List (Int × Int)) : List Value := l.flatMap (fun p => [.int .i64 p.1, .int .i64 p.2])
theorem flatP_append (l m : List (Int × Int)) : flatP (l ++ m) = flatP l ++ flatP m := by simp [flatP]
theorem flatP_one (x y : Int) : flatP [(x, y)] = [.int .i64 x, .int .i64 y] := by simp [flatP]
theorem flatP_at : ∀ (l : List (Int × Int)) (i : Nat) (h : i < l.length), (flatP l)[i * 2]? = some (.int .i64 l[i].1) ∧ (flatP l)[i * 2 + 1]? = some (.int .i64 l[i].2)
  | [], i, h => absurd h (by simp)
  | p :: l, 0, h => by simp [flatP]
  | p :: l, i + 1, h => by
    have ih := flatP_at l i (by simpa using h)
    have e : flatP (p :: l) = .int .i64 p.1 :: .int .i64 p.2 :: flatP l := by simp [flatP]
    rw [e, show (i + 1) * 2 = i * 2 + 1 + 1 by omega]
    simpa using ih
theorem own_rt {w : World} {B n : Nat} {v : Value} {l : List (Int × Int)} (h : w.ownsRow B 37 2 v n (flatP l)) (hl : l.length = n) : ∃ a c, v = .slice a n c ∧ RtP B w a n c l := by
  rcases h.2 with ⟨rfl, h0⟩ | ⟨g, cap, cur, rfl, hb, r⟩
  · subst h0
    exact ⟨none, 0, rfl, hl, .inl rfl⟩
  · exact ⟨_, _, rfl, hl, .inr ⟨g, rfl, hb, ⟨flatP l, ⟨h.1, .inr ⟨g, cap, cur, rfl, Nat.le_refl _, r⟩⟩, flatP_at l⟩, hl⟩⟩
theorem new_cellP (w : World) (x y : Int) : ∀ j u, [Value.int .i64 x, Value.int .i64 y][j]? = some u → (w.alloc (.cells #[.int .i64 x, .int .i64 y] 37)).cell? ((⟨w.heap.size, 0, none⟩ : Addr).add j) = some u :=
  World.news_of_block (cs := #[.int .i64 x, .int .i64 y]) (t := 37) (fr := (0, 0)) (by show (w.heap.push _)[w.heap.size]? = _; simp)
theorem one_rowP (w : World) (x y : Int) : (w.alloc (.cells #[.int .i64 x, .int .i64 y] 37)).ownsRow w.heap.size 37 2 (.slice (some ⟨w.heap.size, 0, none⟩) 1 1) 1 (flatP [(x, y)]) := by
  refine ⟨rfl, .inr ⟨w.heap.size, 1, #[.int .i64 x, .int .i64 y], rfl, Nat.le_refl _, ?_, Nat.le_refl _, by unfold maxLen; omega, rfl, by simp [flatP]⟩⟩
  show (w.heap.push _)[w.heap.size]? = _
  simp
/-- The first point, and j points from the last one back. -/
def tvN (l : List (Int × Int)) (j : Nat) : List (Int × Int) := l.getD 0 (0, 0) :: (List.range j).map (fun t => l.getD (l.length - 1 - t) (0, 0))
theorem tvN_len (l : List (Int × Int)) (j : Nat) : (tvN l j).length = j + 1 := by simp [tvN]
theorem tvN_succ (l : List (Int × Int)) (j : Nat) : tvN l (j + 1) = tvN l j ++ [l.getD (l.length - 1 - j) (0, 0)] := by simp [tvN, List.range_succ]
def tvV (l : List (Int × Int)) : List (Int × Int) := if wayB l then tvN l (l.length - 1) else []
theorem push_belowP {B : Nat} {W wr w1 : World} {o : Obj} {v : Value} {n : Nat} {xs : List Value} (hb : Below B W wr) (hB : B ≤ wr.heap.size) (hown : wr.ownsRow B 37 2 v n xs) (hg : (wr.alloc o).grownBy w1 v.ownBlock) : Below B W w1 := by
  have h1 : Below B W (wr.alloc o) := hb.alloc hB o
  refine h1.grown hg (by simp; omega) (fun k e => ?_)
  rcases hown.2 with ⟨rfl, _⟩ | ⟨g, cap, cur, rfl, hb', _⟩
  · simp [Value.ownBlock] at e
  · simp [Value.ownBlock] at e
    omega
end Go.Proofs.Ytokajpeopijneaa
namespace Go.Proofs.Ytokajpeopijneaa
open Go.RowKit
set_option linter.unusedVariables false
set_option maxRecDepth 100000
set_option linter.unusedSimpArgs false

def mvL (l : List (Int × Int)) (q : Int × Int) : List (Int × Int) := l.map (fun p => (p.1 + q.1, p.2 + q.2))
def mvB (l : List (Int × Int)) (q : Int × Int) : Bool := (wayB l && gPt q) && (mvL l q).all gPt
def mvV (l : List (Int × Int)) (q : Int × Int) : List (Int × Int) := if mvB l q then mvL l q else []
theorem mvL_succ {l : List (Int × Int)} (q : Int × Int) {j : Nat} (h : j < l.length) : mvL (l.take (j + 1)) q = mvL (l.take j) q ++ [((l.getD j (0, 0)).1 + q.1, (l.getD j (0, 0)).2 + q.2)] := by
  unfold mvL
  rw [take_succP h, List.map_append, getD_gt h]
  rfl
end Go.Proofs.Ytokajpeopijneaa
namespace Go.Proofs.Ytokajpeopijneaa
open Go.RowKit
set_option linter.unusedVariables false
set_option maxRecDepth 100000
set_option linter.unusedSimpArgs false

theorem withinI (n far : Int) (w : World) (h0 : 0 ≤ far) (h1 : far ≤ 1000000) :
    Calls Try.prog 35 #[.int .i64 n, .int .i64 far] w fun e w' => e = .returned (.bool (inR n (-far) far)) ∧ w' = w := by
  unfold inR
  have iw : IntKind.i64.wrap (-far) = -far := by rw [IntKind.wrap_i64]; omega
  clear h0 h1
  cases d1 : decide (-far ≤ n) <;> cases d2 : decide (n ≤ far) <;>
    (go_enter Try.func35, Try.ntmps35
     go_wp2
     go_ret
     exact ⟨rfl, rfl⟩)
theorem goodPI (x y : Int) (w : World) :
    Calls Try.prog 31 #[.agg #[.int .i64 x, .int .i64 y]] w fun e w' => e = .returned (.bool (gPt (x, y))) ∧ Below w.heap.size w w' := by
  unfold gPt
  cases h1 : inR x (-1000) 1000
  · have C1 := hide (fun w => withinI x 1000 w (by omega) (by omega))
    rw [h1] at C1
    go_enter Try.func31, Try.ntmps31
    go_wp2_with fail
    refine (unhide C1 _).mono ?_
    rintro e w1 ⟨rfl, rfl⟩
    go_wp2_with fail
    go_ret
    exact ⟨rfl, (Below.refl _ _).alloc (Nat.le_refl _) _⟩
  · have C1 := hide (fun w => withinI x 1000 w (by omega) (by omega))
    have C2 := hide (fun w => withinI y 1000 w (by omega) (by omega))
    rw [h1] at C1
    generalize inR y (-1000) 1000 = r at *
    go_enter Try.func31, Try.ntmps31
    go_wp2_with fail
    refine (unhide C1 _).mono ?_
    rintro e w1 ⟨rfl, rfl⟩
    go_wp2_with fail
    refine (unhide C2 _).mono ?_
    rintro e w1 ⟨rfl, rfl⟩
    go_wp2_with fail
    go_ret
    exact ⟨by cases r <;> rfl, (Below.refl _ _).alloc (Nat.le_refl _) _⟩
set_option maxHeartbeats 2000000 in
theorem ptsI (a : Option Addr) (n c : Nat) (l : List (Int × Int)) (w : World) (h : SlP w a l) (hn : l.length = n) (hm : n ≤ maxLen) :
    Calls Try.prog 21 #[.slice a n c] w fun e w' => e = .returned (.bool (l.all gPt)) ∧ Below w.heap.size w w' := by
  have HS := hide h
  have HN := hide hn
  clear h hn
  unfold maxLen at hm
  go_enter Try.func21, Try.ntmps21
  go_wp2
  go_loopw [7] (fun iv wr => ∃ i : Nat, i ≤ n ∧ iv = .int .i64 i ∧ Hid ((l.take i).all gPt = true) ∧ Hid (Below w.heap.size w wr)) (fun iv _ => n - (intOf iv).toNat)
  case atStart => exact ⟨0, Nat.zero_le _, rfl, hide rfl, hide (Below.refl _ _)⟩
  case round =>
    obtain ⟨i, hi, rfl, HA, HB⟩ := hrel
    by_cases hlt : i < n
    · have hlt' : (i : Int) < (n : Int) := by omega
      rcases (unhide HS) with e | ⟨b, off, rfl, hb, hc⟩
      · exact absurd (unhide HN) (by rw [e]; simp; omega)
      have e0 := hc i (by rw [unhide HN]; exact hlt)
      obtain ⟨y, hy⟩ : ∃ y, y = l[i]'(by rw [unhide HN]; exact hlt) := ⟨_, rfl⟩
      rw [← hy] at e0
      have MY : Hid (y ∈ l) := hide (by rw [hy]; exact List.getElem_mem _)
      have TK : Hid ((l.take (i + 1)).all gPt = gPt y) := hide (by rw [take_succP (by rw [unhide HN]; exact hlt), List.all_append, unhide HA, ← hy]; simp)
      clear hy hc
      have E0 : wr.cell? ⟨b, off + i * 2, none⟩ = some (.int .i64 y.1) := ((unhide HB).cell (p := ⟨b, off + i * 2, none⟩) hb).trans (e0.1)
      have E1 : wr.cell? ⟨b, off + i * 2 + 1, none⟩ = some (.int .i64 y.2) := ((unhide HB).cell (p := ⟨b, off + i * 2 + 1, none⟩) hb).trans (e0.2)
      clear e0
      have C1 := hide (fun w => goodPI y.1 y.2 w)
      cases hg : gPt y
      · have hg2 : gPt (y.1, y.2) = false := hg
        rw [hg2] at C1
        have NA : Hid (l.all gPt = false) := hide (by rw [List.all_eq_false]; exact ⟨y, unhide MY, by rw [hg]; simp⟩)
        go_wp2_with fail
        refine (unhide C1 _).mono ?_
        rintro e w1 ⟨rfl, hb1⟩
        have HB1 := hide (below_on (below_on (unhide HB) ((Below.refl _ _).alloc (Nat.le_refl _) _)) hb1)
        clear hb1 E0 E1
        go_wp2
        go_ret
        exact ⟨by rw [unhide NA]; rfl, unhide HB1⟩
      · have hg2 : gPt (y.1, y.2) = true := hg
        rw [hg2] at C1
        go_wp2_with fail
        refine (unhide C1 _).mono ?_
        rintro e w1 ⟨rfl, hb1⟩
        have HB1 := hide (below_on (below_on (unhide HB) ((Below.refl _ _).alloc (Nat.le_refl _) _)) hb1)
        clear hb1 E0 E1
        go_wp2
        go_roundw
        case rel => exact ⟨i + 1, by omega, by go_num, hide (by rw [unhide TK, hg]), HB1⟩
        case measure => simp [intOf]; omega
    · obtain rfl : i = n := by omega
      have EA : Hid (l.all gPt = true) := hide (by have := unhide HA; rw [← unhide HN, List.take_length] at this; exact this)
      go_wp2
      go_ret
      exact ⟨by rw [unhide EA]; rfl, unhide HB⟩
set_option maxHeartbeats 4000000 in
theorem wayI (a : Option Addr) (n c : Nat) (l : List (Int × Int)) (w : World) (h : SlP w a l) (hn : l.length = n) (hm : n ≤ maxLen) :
    Calls Try.prog 28 #[.slice a n c] w fun e w' => e = .returned (.bool (wayB l)) ∧ Below w.heap.size w w' := by
  have C2 := hide (fun w (k : SlP w a l) => ptsI a n c l w k hn hm)
  have HS := hide h
  unfold wayB inR
  rw [hn]
  clear h hn hm
  cases d1 : decide ((3 : Int) ≤ (n : Int)) <;> cases d2 : decide ((n : Int) ≤ 12)
  · go_enter Try.func28, Try.ntmps28
    go_wp2_with fail
    go_ret
    exact ⟨rfl, Below.refl _ _⟩
  · go_enter Try.func28, Try.ntmps28
    go_wp2_with fail
    go_ret
    exact ⟨rfl, Below.refl _ _⟩
  · go_enter Try.func28, Try.ntmps28
    go_wp2_with fail
    go_ret
    exact ⟨rfl, Below.refl _ _⟩
  · generalize l.all gPt = r at *
    go_enter Try.func28, Try.ntmps28
    go_wp2_with fail
    refine (unhide C2 _ (unhide HS)).mono ?_
    rintro e w2 ⟨rfl, hb⟩
    go_wp2_with fail
    go_ret
    exact ⟨by cases r <;> rfl, hb⟩
theorem sg_zero (k : Int) : decide (k = 0) = decide (sgZ k = 0) := by
  unfold sgZ
  split
  · rw [decide_eq_false (by omega), decide_eq_false (by omega)]
  · split
    · rw [decide_eq_false (by omega), decide_eq_false (by omega)]
    · rw [decide_eq_true (by omega), decide_eq_true rfl]
def meI (a b c d : Int × Int) : Bool := (onV a b c || onV a b d) || (onV c d a || onV c d b) || (decide (sgZ (crs a b c) * sgZ (crs a b d) < 0) && decide (sgZ (crs c d a) * sgZ (crs c d b) < 0))
theorem meI_eq (a b c d : Int × Int) : meI a b c d = meV a b c d := by
  unfold meI meV
  cases onV a b c <;> cases onV a b d <;> cases onV c d a <;> cases onV c d b <;> rfl
end Go.Proofs.Ytokajpeopijneaa
namespace Go.Proofs.Ytokajpeopijneaa
open Go.RowKit
set_option linter.unusedVariables false
set_option maxRecDepth 100000
set_option linter.unusedSimpArgs false

/-- Points of the grid as points of fractions. -/
def ofP (p : Int × Int) : Rat × Rat := ((p.1 : Rat), (p.2 : Rat))
def coL (l : List (Int × Int)) : List (Rat × Rat) := l.map ofP
def gCo (l : List (Int × Int)) : Bool := many l.length && l.all gPt
theorem gPt_in {p : Int × Int} (h : gPt p = true) : (-1000 ≤ p.1 ∧ p.1 ≤ 1000) ∧ (-1000 ≤ p.2 ∧ p.2 ≤ 1000) := by
  unfold gPt inR at h
  simp only [Bool.and_eq_true, decide_eq_true_eq] at h
  omega
theorem gCo_mem {l : List (Int × Int)} (h : gCo l = true) : (1 ≤ l.length ∧ l.length ≤ 5) ∧ ∀ p ∈ l, gPt p = true := by
  unfold gCo many at h
  simp only [Bool.and_eq_true, decide_eq_true_eq] at h
  exact ⟨h.1, fun p hp => List.all_eq_true.1 h.2 p hp⟩
theorem coL_len (l : List (Int × Int)) : (coL l).length = l.length := by unfold coL; simp
theorem coL_get {l : List (Int × Int)} {i : Nat} {p : Int × Int} (h : l[i]? = some p) : (coL l)[i]? = some (ofP p) := by unfold coL; rw [List.getElem?_map, h]; rfl
theorem coL_bd {l : List (Int × Int)} (h : gCo l = true) : BdC (coL l) 40 := fun x hx => by
  obtain ⟨p, hp, rfl⟩ := List.mem_map.1 hx
  have k := gPt_in ((gCo_mem h).2 p hp)
  exact ⟨(bdR_int (by omega) (by omega)).mono (by omega), (bdR_int (by omega) (by omega)).mono (by omega)⟩
theorem coL_bd2 {l : List (Int × Int)} (h : ∀ p ∈ l, gPt p = true) : BdC (coL l) 1 := fun x hx => by
  obtain ⟨p, hp, rfl⟩ := List.mem_map.1 hx
  have k := gPt_in (h p hp)
  exact ⟨(bdR_int (by omega) (by omega)).mono (by omega), (bdR_int (by omega) (by omega)).mono (by omega)⟩
theorem owR_pt {lo mid hi : Nat} {w : World} {q q' : QV} {x y : Rat} (h : OwR lo mid w q x) (k : OwR mid hi w q' y) (h1 : lo ≤ mid) (h2 : mid ≤ hi) : ∃ d : SD, AllOwn lo hi w [((⟨q, q'⟩ : SV).lo.num, d.lo.num), ((⟨q, q'⟩ : SV).lo.den, d.lo.den), ((⟨q, q'⟩ : SV).hi.num, d.hi.num), ((⟨q, q'⟩ : SV).hi.den, d.hi.den)] ∧ AllAr w [((⟨q, q'⟩ : SV).lo.num, d.lo.num), ((⟨q, q'⟩ : SV).lo.den, d.lo.den), ((⟨q, q'⟩ : SV).hi.num, d.hi.num), ((⟨q, q'⟩ : SV).hi.den, d.hi.den)] ∧ IsDP (x, y) d := by
  obtain ⟨xs, us, a1, a2, a3, a4⟩ := h
  obtain ⟨ys, vs, b1, b2, b3, b4⟩ := k
  exact ⟨⟨⟨⟨_, xs⟩, ⟨_, us⟩⟩, ⟨⟨_, ys⟩, ⟨_, vs⟩⟩⟩, a1.join b1 h1 h2, a2.append b2, ⟨rfl, a3, rfl, a4, rfl, b3, rfl, b4⟩⟩

set_option maxHeartbeats 4000000 in
theorem ofI (x y : Int) (w : World) (h0 : -1000 ≤ x) (h1 : x ≤ 1000) (h2 : -1000 ≤ y) (h3 : y ≤ 1000) :
    Calls Try.prog 32 #[.agg #[.int .i64 x, .int .i64 y]] w (OutPt w ((x : Rat), (y : Rat))) := by
  go_enter Try.func32, Try.ntmps32
  go_upto_region 1 with fail
  have hb : Below w.heap.size w ((w.alloc (.cells #[.int .i64 x, .int .i64 y] 37)).alloc (.cells #[.bool false, .slice none 0 0, .bool false, .slice none 0 0, .bool false, .slice none 0 0, .bool false, .slice none 0 0] 44)) := (((Below.refl _ _).alloc (by simp) _).alloc (by simp) _)
  have k0_0 : ((w.alloc (.cells #[.int .i64 x, .int .i64 y] 37)).alloc (.cells #[.bool false, .slice none 0 0, .bool false, .slice none 0 0, .bool false, .slice none 0 0, .bool false, .slice none 0 0] 44)).cell? ⟨w.heap.size, 0, none⟩ = some (.int .i64 x) := by simp [go_sem]
  have k0_1 : ((w.alloc (.cells #[.int .i64 x, .int .i64 y] 37)).alloc (.cells #[.bool false, .slice none 0 0, .bool false, .slice none 0 0, .bool false, .slice none 0 0, .bool false, .slice none 0 0] 44)).cell? ⟨w.heap.size, 1, none⟩ = some (.int .i64 y) := by simp [go_sem]
  have k1_0 : ((w.alloc (.cells #[.int .i64 x, .int .i64 y] 37)).alloc (.cells #[.bool false, .slice none 0 0, .bool false, .slice none 0 0, .bool false, .slice none 0 0, .bool false, .slice none 0 0] 44)).cell? ⟨w.heap.size + 1, 0, none⟩ = some (.bool false) := by simp [go_sem]
  have k1_1 : ((w.alloc (.cells #[.int .i64 x, .int .i64 y] 37)).alloc (.cells #[.bool false, .slice none 0 0, .bool false, .slice none 0 0, .bool false, .slice none 0 0, .bool false, .slice none 0 0] 44)).cell? ⟨w.heap.size + 1, 1, none⟩ = some (.slice none 0 0) := by simp [go_sem]
  have k1_2 : ((w.alloc (.cells #[.int .i64 x, .int .i64 y] 37)).alloc (.cells #[.bool false, .slice none 0 0, .bool false, .slice none 0 0, .bool false, .slice none 0 0, .bool false, .slice none 0 0] 44)).cell? ⟨w.heap.size + 1, 2, none⟩ = some (.bool false) := by simp [go_sem]
  have k1_3 : ((w.alloc (.cells #[.int .i64 x, .int .i64 y] 37)).alloc (.cells #[.bool false, .slice none 0 0, .bool false, .slice none 0 0, .bool false, .slice none 0 0, .bool false, .slice none 0 0] 44)).cell? ⟨w.heap.size + 1, 3, none⟩ = some (.slice none 0 0) := by simp [go_sem]
  have k1_4 : ((w.alloc (.cells #[.int .i64 x, .int .i64 y] 37)).alloc (.cells #[.bool false, .slice none 0 0, .bool false, .slice none 0 0, .bool false, .slice none 0 0, .bool false, .slice none 0 0] 44)).cell? ⟨w.heap.size + 1, 4, none⟩ = some (.bool false) := by simp [go_sem]
  have k1_5 : ((w.alloc (.cells #[.int .i64 x, .int .i64 y] 37)).alloc (.cells #[.bool false, .slice none 0 0, .bool false, .slice none 0 0, .bool false, .slice none 0 0, .bool false, .slice none 0 0] 44)).cell? ⟨w.heap.size + 1, 5, none⟩ = some (.slice none 0 0) := by simp [go_sem]
  have k1_6 : ((w.alloc (.cells #[.int .i64 x, .int .i64 y] 37)).alloc (.cells #[.bool false, .slice none 0 0, .bool false, .slice none 0 0, .bool false, .slice none 0 0, .bool false, .slice none 0 0] 44)).cell? ⟨w.heap.size + 1, 6, none⟩ = some (.bool false) := by simp [go_sem]
  have k1_7 : ((w.alloc (.cells #[.int .i64 x, .int .i64 y] 37)).alloc (.cells #[.bool false, .slice none 0 0, .bool false, .slice none 0 0, .bool false, .slice none 0 0, .bool false, .slice none 0 0] 44)).cell? ⟨w.heap.size + 1, 7, none⟩ = some (.slice none 0 0) := by simp [go_sem]
  have z1 : ∀ o, ((w.alloc (.cells #[.int .i64 x, .int .i64 y] 37)).alloc (.cells #[.bool false, .slice none 0 0, .bool false, .slice none 0 0, .bool false, .slice none 0 0, .bool false, .slice none 0 0] 44)).frozen? ⟨w.heap.size + 1, o, none⟩ = false := fun o => by simp [go_sem]
  have szw0 : w.heap.size + 2 ≤ ((w.alloc (.cells #[.int .i64 x, .int .i64 y] 37)).alloc (.cells #[.bool false, .slice none 0 0, .bool false, .slice none 0 0, .bool false, .slice none 0 0, .bool false, .slice none 0 0] 44)).heap.size := by simp
  have HB := hide hb
  clear hb
  generalize ((w.alloc (.cells #[.int .i64 x, .int .i64 y] 37)).alloc (.cells #[.bool false, .slice none 0 0, .bool false, .slice none 0 0, .bool false, .slice none 0 0, .bool false, .slice none 0 0] 44)) = w0 at *
  have ne0_1 : w.heap.size ≠ w.heap.size + 1 := by omega
  go_region_held3 (fun w' => w'.cell? ⟨w.heap.size, 0, none⟩ = some (.int .i64 x) ∧ w'.cell? ⟨w.heap.size, 1, none⟩ = some (.int .i64 y)) (with_reducible (first | exact ⟨k0_0, k0_1⟩ | exact ⟨cd_other k0_0, cd_other k0_1⟩ | exact ⟨cs_other (cs_other (cs_other (cs_other (cs_other (cs_other (cs_other (cs_other (k0_0) ne0_1) ne0_1) ne0_1) ne0_1) ne0_1) ne0_1) ne0_1) ne0_1, cs_other (cs_other (cs_other (cs_other (cs_other (cs_other (cs_other (cs_other (k0_1) ne0_1) ne0_1) ne0_1) ne0_1) ne0_1) ne0_1) ne0_1) ne0_1⟩ | fail))
    (first
    | (have chk := P1; clear chk; go_at_call_of 36 (Value.int IntKind.i64 y); refine (wholeRI y _ (by omega) (by omega)).mono ?_; rintro e w2 ⟨x2, la2, lb2, rfl, hb, o2, a2, m2, n2⟩; have hbx : Below w1.heap.size w1 w2 := hb; have szw2 := hbx.size; replace z1 := fun o => frozen_later hbx (World.block_lt_of_cell? _ _ k1_0) (z1 o); replace k0_0 := cell_later hbx k0_0; replace k0_1 := cell_later hbx k0_1; replace k1_0 := cell_later hbx k1_0; replace k1_1 := cell_later hbx k1_1; replace k1_2 := cell_later hbx k1_2; replace k1_3 := cell_later hbx k1_3; replace k1_4 := cell_later hbx k1_4; replace k1_5 := cell_later hbx k1_5; replace k1_6 := cell_later hbx k1_6; replace k1_7 := cell_later hbx k1_7; replace P1 := hide ((unhide P1).later hbx); have P2 := hide (owR_of (lo := w1.heap.size) (x := (y : Rat)) o2 a2 m2 n2); have HBr := hide (below_on (unhide HBr) hbx); clear hbx hb o2 a2 m2 n2)
    | (go_at_call_of 36 (Value.int IntKind.i64 x); refine (wholeRI x _ (by omega) (by omega)).mono ?_; rintro e w1 ⟨x1, la1, lb1, rfl, hb, o1, a1, m1, n1⟩; have hbx : Below w0.heap.size w0 w1 := below_of_drew hb; have szw1 := hbx.size; replace z1 := fun o => frozen_later hbx (World.block_lt_of_cell? _ _ k1_0) (z1 o); replace k0_0 := cell_later hbx k0_0; replace k0_1 := cell_later hbx k0_1; replace k1_0 := cell_later hbx k1_0; replace k1_1 := cell_later hbx k1_1; replace k1_2 := cell_later hbx k1_2; replace k1_3 := cell_later hbx k1_3; replace k1_4 := cell_later hbx k1_4; replace k1_5 := cell_later hbx k1_5; replace k1_6 := cell_later hbx k1_6; replace k1_7 := cell_later hbx k1_7; have P1 := hide (owR_of (lo := w0.heap.size) (x := (x : Rat)) o1 a1 m1 n1); have HBr := hide hbx; clear hbx hb o1 a1 m1 n1))
  replace HB := hide (below_on (unhide HB) (unhide HBr))
  clear HBr
  go_wp2
  refine bodyPost_ret (v := .agg #[.bool x1.num.g, .slice x1.num.a x1.num.n x1.num.c, .bool x1.den.g, .slice x1.den.a x1.den.n x1.den.c, .bool x2.num.g, .slice x2.num.a x2.num.n x2.num.c, .bool x2.den.g, .slice x2.den.a x2.den.n x2.den.c]) (by simp [results, Try.results32, go_sem, k1_0, k1_1, k1_2, k1_3, k1_4, k1_5, k1_6, k1_7]) rfl ?_
  exact outPt_fin (v := (⟨x1, x2⟩ : SV)) (R := w.heap.size + 1) (by omega) (unhide HB) (metS_but (w5 := w2) (v := (⟨x1, x2⟩ : SV)) (G := w.heap.size + 1)) (unhide P1) (unhide P2) (by omega) (by omega) (by omega) (by omega)

set_option maxHeartbeats 8000000 in
theorem rptsofI (a : Option Addr) (n c : Nat) (l : List (Int × Int)) (w : World) (h : SlP w a l) (hl : l.length = n) (hg : ∀ p ∈ l, gPt p = true) (hn : n ≤ 1000) :
    Calls Try.prog 22 #[.slice a n c] w (OutCz w (coL l)) := by
  have HS := hide h
  have HN := hide hl
  have HG := hide hg
  clear h hl hg
  obtain ⟨i0, hi, hz0, hz1, hz2⟩ := info_parts Try.info44
  go_enter Try.func22, Try.ntmps22
  go_wp2_with (at_make; refine wpList_make_full _ rfl _ _ 24 rfl w.heap.size 44 i0 (.agg #[.bool false, .slice none 0 0, .bool false, .slice none 0 0, .bool false, .slice none 0 0, .bool false, .slice none 0 0]) 8 Try.underlying24 hi hz0 hz1 .i64 .i64 _ _ n rfl rfl rfl rfl ?c1 ?c2 ?c3 ?_)
  case c1 => rw [hz2]; omega
  case c2 => unfold maxLen; omega
  case c3 => exact Nat.le_refl _
  intro wm hown hgrow
  have hbm : Below w.heap.size w wm := (Below.refl _ _).grown hgrow (Nat.le_refl _) (fun k e => by cases e)
  have G0 := hide (GrZ.start hown hbm)
  have HBm := hide hbm
  clear hown hgrow hi hz0 hz1 hz2 hbm
  go_wp2
  go_loopw [11] (fun iv wr => ∃ (i : Nat) (us : List (SV × SD)), i ≤ n ∧ iv = .int .i64 i ∧ Hid (GrZ w.heap.size n wr us) ∧ Hid (∀ j p, j < i → (coL l)[j]? = some p → AtZ us j p) ∧ Hid (Below w.heap.size w wr)) (fun iv _ => n - (intOf iv).toNat)
  case atStart => exact ⟨0, _, Nat.zero_le _, rfl, G0, hide (fun j p hj => absurd hj (Nat.not_lt_zero _)), HBm⟩
  case round =>
    clear G0 HBm
    obtain ⟨i, us, hi', rfl, GR, AT, HB⟩ := hrel
    by_cases hlt : i < n
    · have hlt' : (i : Int) < (n : Int) := by omega
      rcases (unhide HS) with e | ⟨b, off, rfl, hb, hcb⟩
      · exact absurd (unhide HN) (by rw [e]; simp <;> omega)
      have e0 := hcb i (by rw [unhide HN]; exact hlt)
      obtain ⟨y, hy⟩ : ∃ y, y = l[i]'(by rw [unhide HN]; exact hlt) := ⟨_, rfl⟩
      rw [← hy] at e0
      have My : Hid (l[i]? = some y) := hide (by rw [hy]; exact List.getElem?_eq_getElem _)
      have GY := gPt_in ((unhide HG) y (by rw [hy]; exact List.getElem_mem _))
      have P0 : wr.cell? ⟨b, off + i * 2, none⟩ = some (.int .i64 y.1) := ((unhide HB).cell (p := ⟨b, off + i * 2, none⟩) hb).trans e0.1
      have P1 : wr.cell? ⟨b, off + i * 2 + 1, none⟩ = some (.int .i64 y.2) := ((unhide HB).cell (p := ⟨b, off + i * 2 + 1, none⟩) hb).trans e0.2
      clear hy e0 hcb
      have al : Below wr.heap.size wr (wr.alloc (.cells #[.int .i64 y.1, .int .i64 y.2] 37)) := (Below.refl _ _).alloc (Nat.le_refl _) _
      have AL := hide al
      clear al
      have zb := (unhide GR).lt
      have j4 : (0 : Int) ≤ (i : Int) := by omega
      go_wp2_with fail
      refine (calls_dp (ofI y.1 y.2 _ (by omega) (by omega) (by omega) (by omega))).mono ?_
      rintro e w3 ⟨u, d, rfl, hb3, ho, ha, hd⟩
      have FR := hide (below_on (unhide AL) hb3)
      have sz3 := (unhide FR).size
      have G2 := hide ((unhide GR).later (unhide FR))
      have GP := hide ((unhide GR).put (k := i) (u := u) (unhide FR) hlt (ho.wide (by simp) (Nat.le_refl _)) ha)
      have HBx := hide (below_on (unhide HB) (unhide FR))
      have HD := hide hd
      clear hb3 ho ha hd P0 P1
      obtain ⟨x0, o0⟩ := (unhide G2).old (o := i * 8) (by omega)
      obtain ⟨x1, o1⟩ := (unhide G2).old (o := i * 8 + 1) (by omega)
      obtain ⟨x2, o2⟩ := (unhide G2).old (o := i * 8 + 2) (by omega)
      obtain ⟨x3, o3⟩ := (unhide G2).old (o := i * 8 + 3) (by omega)
      obtain ⟨x4, o4⟩ := (unhide G2).old (o := i * 8 + 4) (by omega)
      obtain ⟨x5, o5⟩ := (unhide G2).old (o := i * 8 + 5) (by omega)
      obtain ⟨x6, o6⟩ := (unhide G2).old (o := i * 8 + 6) (by omega)
      obtain ⟨x7, o7⟩ := (unhide G2).old (o := i * 8 + 7) (by omega)
      have fr := (unhide G2).fz
      have AT2 : Hid (∀ j p, j < i + 1 → (coL l)[j]? = some p → AtZ (us.set i (u, d)) j p) := hide (fun j p hj hp => by
        by_cases e : j = i
        · subst e
          rw [coL_get (unhide My)] at hp
          obtain rfl := Option.some.inj hp
          exact AtZ.here (by rw [(unhide GR).len]; exact hlt) (unhide HD)
        · exact ((unhide AT) j p (by omega) hp).keep (by omega))
      have HB3 := hide (GrZ.bel (n := 0) (B := w.heap.size) (k := i) (u := u) (unhide HBx) (Nat.le_refl _))
      go_wp2
      go_roundw
      case rel => exact ⟨i + 1, _, by omega, by go_num, GP, AT2, HB3⟩
      case measure => simp [intOf]; omega
    · obtain rfl : i = n := by omega
      have IC : Hid (IsC (coL l) (us.map Prod.snd)) := hide (atZ_isC (by rw [(unhide GR).len, coL_len, unhide HN]) (fun k p hp => by
        have hk : k < i := by have := (List.getElem?_eq_some_iff.1 hp).1; rw [coL_len, unhide HN] at this; exact this
        exact (unhide AT) k p hk hp))
      obtain ⟨r1, r2⟩ := GrZ.finL (w0 := w) (unhide GR) (unhide IC) (coL_bd2 (unhide HG)) (by omega) (by omega) (by omega) (Nat.le_refl _)
      have R1 := hide r1
      have R2 := hide r2
      clear r1 r2
      go_wp2
      go_ret
      exact ⟨_, _, _, us, rfl, unhide HB, unhide R1, unhide R2⟩

set_option maxHeartbeats 8000000 in
theorem CvoI (a : Option Addr) (n c : Nat) (l : List (Int × Int)) (w : World) (h : ArP w a n c l) :
    Calls Try.prog 8 #[.slice a n c] w (RetPoZ w (AnsC (gCo l) (fun _ => true) (coL l))) := by
  have HS := hide h
  have HN := hide h.len
  have hm : n ≤ maxLen := Nat.le_trans h.cap h.top
  have hl := h.len
  clear h
  have C1 := hide (fun w1 => manyI n w1 hm)
  have C2 := hide (fun w1 (k : SlP w1 a l) => ptsI a n c l w1 k hl hm)
  cases h1 : many n
  · have hg : gCo l = false := by unfold gCo; rw [hl, h1]; rfl
    rw [h1] at C1
    rw [hg]
    unfold maxLen at hm
    go_enter Try.func8, Try.ntmps8
    go_wp2_with fail
    refine (unhide C1 _).mono ?_
    rintro e w ⟨rfl, rfl⟩
    have HB := hide (Below.refl w.heap.size w)
    go_wp2
    go_ret2
    exact ⟨none, 0, 0, [], false, rfl, unhide HB, PRoZ.none _ _ _, .inr ⟨rfl, rfl, rfl⟩⟩
  · cases h2 : l.all gPt
    · have hg : gCo l = false := by unfold gCo; rw [h2, Bool.and_false]
      rw [h1] at C1
      rw [h2] at C2
      rw [hg]
      unfold maxLen at hm
      go_enter Try.func8, Try.ntmps8
      go_wp2_with fail
      refine (unhide C1 _).mono ?_
      rintro e w ⟨rfl, rfl⟩
      go_wp2_with fail
      refine (unhide C2 _ (unhide HS).sl).mono ?_
      rintro e w2 ⟨rfl, hb⟩
      have HB := hide hb
      clear hb
      go_wp2
      go_ret2
      exact ⟨none, 0, 0, [], false, rfl, unhide HB, PRoZ.none _ _ _, .inr ⟨rfl, rfl, rfl⟩⟩
    · have hg : gCo l = true := by unfold gCo; rw [hl, h1, h2]; rfl
      rw [h1] at C1
      rw [h2] at C2
      rw [hg]
      have HG := hide hg
      have n5 : 1 ≤ n ∧ n ≤ 5 := by have := (gCo_mem hg).1; rw [hl] at this; exact this
      clear hg h1 h2
      unfold maxLen at hm
      go_enter Try.func8, Try.ntmps8
      go_wp2_with fail
      refine (unhide C1 _).mono ?_
      rintro e w ⟨rfl, rfl⟩
      go_wp2_with fail
      refine (unhide C2 _ (unhide HS).sl).mono ?_
      rintro e w1 ⟨rfl, hb⟩
      have HB1 := hide hb
      have s1 := hb.size
      clear hb C1 C2
      go_wp2_with fail
      refine (rptsofI _ _ _ l _ ((unhide HS).sl.later (unhide HB1)) (unhide HN) (gCo_mem (unhide HG)).2 (by omega)).mono ?_
      rintro e w2 ⟨a2, n2, c2, l2, rfl, hb2, ro, rd⟩
      have HB := hide (below_on (unhide HB1) hb2)
      have R1 := hide (ro.wide s1 (Nat.le_refl _))
      have IC := hide rd.is
      clear hb2 ro rd
      go_wp2
      go_ret2
      exact ⟨_, _, _, l2, true, rfl, unhide HB, unhide R1, .inl ⟨rfl, _, unhide IC, .inl ⟨rfl, rfl, rfl⟩⟩⟩

set_option maxHeartbeats 4000000 in
theorem ofS (x y : Int) (w : World) (h0 : -1000 ≤ x) (h1 : x ≤ 1000) (h2 : -1000 ≤ y) (h3 : y ≤ 1000) :
    Calls Try.prog 18 #[.agg #[.int .i64 x, .int .i64 y]] w (OutPt w ((x : Rat), (y : Rat))) := by
  go_enter Try.func18, Try.ntmps18
  go_upto_region 1 with fail
  have hb : Below w.heap.size w ((w.alloc (.cells #[.int .i64 x, .int .i64 y] 37)).alloc (.cells #[.bool false, .slice none 0 0, .bool false, .slice none 0 0, .bool false, .slice none 0 0, .bool false, .slice none 0 0] 44)) := (((Below.refl _ _).alloc (by simp) _).alloc (by simp) _)
  have k0_0 : ((w.alloc (.cells #[.int .i64 x, .int .i64 y] 37)).alloc (.cells #[.bool false, .slice none 0 0, .bool false, .slice none 0 0, .bool false, .slice none 0 0, .bool false, .slice none 0 0] 44)).cell? ⟨w.heap.size, 0, none⟩ = some (.int .i64 x) := by simp [go_sem]
  have k0_1 : ((w.alloc (.cells #[.int .i64 x, .int .i64 y] 37)).alloc (.cells #[.bool false, .slice none 0 0, .bool false, .slice none 0 0, .bool false, .slice none 0 0, .bool false, .slice none 0 0] 44)).cell? ⟨w.heap.size, 1, none⟩ = some (.int .i64 y) := by simp [go_sem]
  have k1_0 : ((w.alloc (.cells #[.int .i64 x, .int .i64 y] 37)).alloc (.cells #[.bool false, .slice none 0 0, .bool false, .slice none 0 0, .bool false, .slice none 0 0, .bool false, .slice none 0 0] 44)).cell? ⟨w.heap.size + 1, 0, none⟩ = some (.bool false) := by simp [go_sem]
  have k1_1 : ((w.alloc (.cells #[.int .i64 x, .int .i64 y] 37)).alloc (.cells #[.bool false, .slice none 0 0, .bool false, .slice none 0 0, .bool false, .slice none 0 0, .bool false, .slice none 0 0] 44)).cell? ⟨w.heap.size + 1, 1, none⟩ = some (.slice none 0 0) := by simp [go_sem]
  have k1_2 : ((w.alloc (.cells #[.int .i64 x, .int .i64 y] 37)).alloc (.cells #[.bool false, .slice none 0 0, .bool false, .slice none 0 0, .bool false, .slice none 0 0, .bool false, .slice none 0 0] 44)).cell? ⟨w.heap.size + 1, 2, none⟩ = some (.bool false) := by simp [go_sem]
  have k1_3 : ((w.alloc (.cells #[.int .i64 x, .int .i64 y] 37)).alloc (.cells #[.bool false, .slice none 0 0, .bool false, .slice none 0 0, .bool false, .slice none 0 0, .bool false, .slice none 0 0] 44)).cell? ⟨w.heap.size + 1, 3, none⟩ = some (.slice none 0 0) := by simp [go_sem]
  have k1_4 : ((w.alloc (.cells #[.int .i64 x, .int .i64 y] 37)).alloc (.cells #[.bool false, .slice none 0 0, .bool false, .slice none 0 0, .bool false, .slice none 0 0, .bool false, .slice none 0 0] 44)).cell? ⟨w.heap.size + 1, 4, none⟩ = some (.bool false) := by simp [go_sem]
  have k1_5 : ((w.alloc (.cells #[.int .i64 x, .int .i64 y] 37)).alloc (.cells #[.bool false, .slice none 0 0, .bool false, .slice none 0 0, .bool false, .slice none 0 0, .bool false, .slice none 0 0] 44)).cell? ⟨w.heap.size + 1, 5, none⟩ = some (.slice none 0 0) := by simp [go_sem]
  have k1_6 : ((w.alloc (.cells #[.int .i64 x, .int .i64 y] 37)).alloc (.cells #[.bool false, .slice none 0 0, .bool false, .slice none 0 0, .bool false, .slice none 0 0, .bool false, .slice none 0 0] 44)).cell? ⟨w.heap.size + 1, 6, none⟩ = some (.bool false) := by simp [go_sem]
  have k1_7 : ((w.alloc (.cells #[.int .i64 x, .int .i64 y] 37)).alloc (.cells #[.bool false, .slice none 0 0, .bool false, .slice none 0 0, .bool false, .slice none 0 0, .bool false, .slice none 0 0] 44)).cell? ⟨w.heap.size + 1, 7, none⟩ = some (.slice none 0 0) := by simp [go_sem]
  have z1 : ∀ o, ((w.alloc (.cells #[.int .i64 x, .int .i64 y] 37)).alloc (.cells #[.bool false, .slice none 0 0, .bool false, .slice none 0 0, .bool false, .slice none 0 0, .bool false, .slice none 0 0] 44)).frozen? ⟨w.heap.size + 1, o, none⟩ = false := fun o => by simp [go_sem]
  have szw0 : w.heap.size + 2 ≤ ((w.alloc (.cells #[.int .i64 x, .int .i64 y] 37)).alloc (.cells #[.bool false, .slice none 0 0, .bool false, .slice none 0 0, .bool false, .slice none 0 0, .bool false, .slice none 0 0] 44)).heap.size := by simp
  have HB := hide hb
  clear hb
  generalize ((w.alloc (.cells #[.int .i64 x, .int .i64 y] 37)).alloc (.cells #[.bool false, .slice none 0 0, .bool false, .slice none 0 0, .bool false, .slice none 0 0, .bool false, .slice none 0 0] 44)) = w0 at *
  have ne0_1 : w.heap.size ≠ w.heap.size + 1 := by omega
  go_region_held3 (fun w' => w'.cell? ⟨w.heap.size, 0, none⟩ = some (.int .i64 x) ∧ w'.cell? ⟨w.heap.size, 1, none⟩ = some (.int .i64 y)) (with_reducible (first | exact ⟨k0_0, k0_1⟩ | exact ⟨cd_other k0_0, cd_other k0_1⟩ | exact ⟨cs_other (cs_other (cs_other (cs_other (cs_other (cs_other (cs_other (cs_other (k0_0) ne0_1) ne0_1) ne0_1) ne0_1) ne0_1) ne0_1) ne0_1) ne0_1, cs_other (cs_other (cs_other (cs_other (cs_other (cs_other (cs_other (cs_other (k0_1) ne0_1) ne0_1) ne0_1) ne0_1) ne0_1) ne0_1) ne0_1) ne0_1⟩ | fail))
    (first
    | (have chk := P1; clear chk; go_at_call_of 30 (Value.int IntKind.i64 y); refine (wholeRS y _ (by omega) (by omega)).mono ?_; rintro e w2 ⟨x2, la2, lb2, rfl, hb, o2, a2, m2, n2⟩; have hbx : Below w1.heap.size w1 w2 := hb; have szw2 := hbx.size; replace z1 := fun o => frozen_later hbx (World.block_lt_of_cell? _ _ k1_0) (z1 o); replace k0_0 := cell_later hbx k0_0; replace k0_1 := cell_later hbx k0_1; replace k1_0 := cell_later hbx k1_0; replace k1_1 := cell_later hbx k1_1; replace k1_2 := cell_later hbx k1_2; replace k1_3 := cell_later hbx k1_3; replace k1_4 := cell_later hbx k1_4; replace k1_5 := cell_later hbx k1_5; replace k1_6 := cell_later hbx k1_6; replace k1_7 := cell_later hbx k1_7; replace P1 := hide ((unhide P1).later hbx); have P2 := hide (owR_of (lo := w1.heap.size) (x := (y : Rat)) o2 a2 m2 n2); have HBr := hide (below_on (unhide HBr) hbx); clear hbx hb o2 a2 m2 n2)
    | (go_at_call_of 30 (Value.int IntKind.i64 x); refine (wholeRS x _ (by omega) (by omega)).mono ?_; rintro e w1 ⟨x1, la1, lb1, rfl, hb, o1, a1, m1, n1⟩; have hbx : Below w0.heap.size w0 w1 := below_of_drew hb; have szw1 := hbx.size; replace z1 := fun o => frozen_later hbx (World.block_lt_of_cell? _ _ k1_0) (z1 o); replace k0_0 := cell_later hbx k0_0; replace k0_1 := cell_later hbx k0_1; replace k1_0 := cell_later hbx k1_0; replace k1_1 := cell_later hbx k1_1; replace k1_2 := cell_later hbx k1_2; replace k1_3 := cell_later hbx k1_3; replace k1_4 := cell_later hbx k1_4; replace k1_5 := cell_later hbx k1_5; replace k1_6 := cell_later hbx k1_6; replace k1_7 := cell_later hbx k1_7; have P1 := hide (owR_of (lo := w0.heap.size) (x := (x : Rat)) o1 a1 m1 n1); have HBr := hide hbx; clear hbx hb o1 a1 m1 n1))
  replace HB := hide (below_on (unhide HB) (unhide HBr))
  clear HBr
  go_wp2
  refine bodyPost_ret (v := .agg #[.bool x1.num.g, .slice x1.num.a x1.num.n x1.num.c, .bool x1.den.g, .slice x1.den.a x1.den.n x1.den.c, .bool x2.num.g, .slice x2.num.a x2.num.n x2.num.c, .bool x2.den.g, .slice x2.den.a x2.den.n x2.den.c]) (by simp [results, Try.results18, go_sem, k1_0, k1_1, k1_2, k1_3, k1_4, k1_5, k1_6, k1_7]) rfl ?_
  exact outPt_fin (v := (⟨x1, x2⟩ : SV)) (R := w.heap.size + 1) (by omega) (unhide HB) (metS_but (w5 := w2) (v := (⟨x1, x2⟩ : SV)) (G := w.heap.size + 1)) (unhide P1) (unhide P2) (by omega) (by omega) (by omega) (by omega)

set_option maxHeartbeats 8000000 in
theorem CvoS (a : Option Addr) (n c : Nat) (l : List (Int × Int)) (w : World) (h : ArP w a n c l) :
    Calls Try.prog 6 #[.slice a n c] w (RetPrZ w (AnsC (gCo l) (fun _ => true) (coL l))) := by
  have HS := hide h
  have HN := hide h.len
  have hm : n ≤ maxLen := Nat.le_trans h.cap h.top
  have hl := h.len
  clear h
  have C1 := hide (fun w1 => (show Calls Try.prog 16 #[.int .i64 (n : Int), .int .i64 1, .int .i64 5] w1 fun e w' => e = .returned (.bool (many n)) ∧ w' = w1 from by have h := l1In_any (n : Int) 1 5 w1; rw [show (decide ((1 : Int) ≤ (n : Int)) && decide ((n : Int) ≤ 5)) = many n from by unfold many; congr 1 <;> (apply decide_eq_decide.2; omega)] at h; exact h))
  have C2 := hide (fun w1 (k : SlP w1 a l) => ptsS a n c l w1 k hl hm)
  cases h1 : many n
  · have hg : gCo l = false := by unfold gCo; rw [hl, h1]; rfl
    rw [h1] at C1
    rw [hg]
    unfold maxLen at hm
    go_enter Try.func6, Try.ntmps6
    go_wp2_with fail
    refine (unhide C1 _).mono ?_
    rintro e w ⟨rfl, rfl⟩
    have HB := hide (Below.refl w.heap.size w)
    go_wp2
    go_ret2
    exact ⟨none, 0, 0, [], false, rfl, unhide HB, ⟨.inl rfl, fun p hp => (by cases hp)⟩, rfl, .inr ⟨rfl, rfl, rfl⟩⟩
  · cases h2 : l.all gPt
    · have hg : gCo l = false := by unfold gCo; rw [h2, Bool.and_false]
      rw [h1] at C1
      rw [h2] at C2
      rw [hg]
      unfold maxLen at hm
      go_enter Try.func6, Try.ntmps6
      go_wp2_with fail
      refine (unhide C1 _).mono ?_
      rintro e w ⟨rfl, rfl⟩
      go_wp2_with fail
      refine (unhide C2 _ (unhide HS).sl).mono ?_
      rintro e w2 ⟨rfl, hb⟩
      have HB := hide hb
      clear hb
      go_wp2
      go_ret2
      exact ⟨none, 0, 0, [], false, rfl, unhide HB, ⟨.inl rfl, fun p hp => (by cases hp)⟩, rfl, .inr ⟨rfl, rfl, rfl⟩⟩
    · have hg : gCo l = true := by unfold gCo; rw [hl, h1, h2]; rfl
      rw [h1] at C1
      rw [h2] at C2
      rw [hg]
      have HG := hide hg
      have n5 : 1 ≤ n ∧ n ≤ 5 := by have := (gCo_mem hg).1; rw [hl] at this; exact this
      clear hg h1 h2
      unfold maxLen at hm
      go_enter Try.func6, Try.ntmps6
      go_wp2_with fail
      refine (unhide C1 _).mono ?_
      rintro e w ⟨rfl, rfl⟩
      go_wp2_with fail
      refine (unhide C2 _ (unhide HS).sl).mono ?_
      rintro e w1 ⟨rfl, hb⟩
      have HB1 := hide hb
      clear hb C1 C2
      go_wp2
      go_loopw [4, 18] (fun x iv wr => ∃ (i : Nat) (us : List (SV × SD)), i ≤ n ∧ iv = .int .i64 i ∧ us.length = i ∧ Hid (GwZ w.heap.size wr x us) ∧ Hid (∀ j p, j < i → (coL l)[j]? = some p → AtZ us j p) ∧ Hid (Below w.heap.size w wr)) (fun _ iv _ => n - (intOf iv).toNat)
      case atStart => exact ⟨0, [], Nat.zero_le _, rfl, rfl, hide (GwZ.nil _ _), hide (fun j p hj => absurd hj (Nat.not_lt_zero _)), HB1⟩
      case round =>
        clear HB1
        obtain ⟨i, us, hi', rfl, hu, GW, AT, HB⟩ := hrel
        by_cases hlt : i < n
        · have hlt' : (i : Int) < (n : Int) := by omega
          rcases (unhide HS).sl with e | ⟨b, off, rfl, hb, hcb⟩
          · exact absurd (unhide HN) (by rw [e]; simp <;> omega)
          have e0 := hcb i (by rw [unhide HN]; exact hlt)
          obtain ⟨y, hy⟩ : ∃ y, y = l[i]'(by rw [unhide HN]; exact hlt) := ⟨_, rfl⟩
          rw [← hy] at e0
          have My : Hid (l[i]? = some y) := hide (by rw [hy]; exact List.getElem?_eq_getElem _)
          have GY := gPt_in ((gCo_mem (unhide HG)).2 y (by rw [hy]; exact List.getElem_mem _))
          have P0 : wr.cell? ⟨b, off + i * 2, none⟩ = some (.int .i64 y.1) := ((unhide HB).cell (p := ⟨b, off + i * 2, none⟩) hb).trans e0.1
          have P1 : wr.cell? ⟨b, off + i * 2 + 1, none⟩ = some (.int .i64 y.2) := ((unhide HB).cell (p := ⟨b, off + i * 2 + 1, none⟩) hb).trans e0.2
          clear hy e0 hcb
          have al : Below wr.heap.size wr (wr.alloc (.cells #[.int .i64 y.1, .int .i64 y.2] 37)) := (Below.refl _ _).alloc (Nat.le_refl _) _
          have AL := hide al
          clear al
          go_wp2_with fail
          refine (calls_dp (ofS y.1 y.2 _ (by omega) (by omega) (by omega) (by omega))).mono ?_
          rintro e w3 ⟨u, d, rfl, hb3, ho, ha, hd⟩
          have fr := below_on (unhide AL) hb3
          have a3 : Below w3.heap.size w3 (w3.alloc (.cells #[.bool u.lo.num.g, .slice u.lo.num.a u.lo.num.n u.lo.num.c, .bool u.lo.den.g, .slice u.lo.den.a u.lo.den.n u.lo.den.c, .bool u.hi.num.g, .slice u.hi.num.a u.hi.num.n u.hi.num.c, .bool u.hi.den.g, .slice u.hi.den.a u.hi.den.n u.hi.den.c] 44)) := (Below.refl _ _).alloc (Nat.le_refl _) _
          have fr3 := below_on fr a3
          have GW3 := hide ((unhide GW).later fr3)
          have TY3 := hide (ho.typZ.later a3)
          have AR3 := hide (ha.later a3)
          have HB3 := hide (below_on (unhide HB) fr3)
          have zz := (below_on (unhide HB) fr).size
          have HD := hide hd
          clear hb3 ho ha hd fr a3 fr3 P0 P1 GW AL
          go_wp2_with (at_builtin; refine appZ rfl (.tmp 22) (.tmp 25) rfl w.heap.size _ us rfl (unhide GW3) w3.heap.size u d rfl (heap_alloc_new _ _) (unhide TY3) (unhide AR3) (by omega) (by simp; omega) ?_)
          intro g cap w4 hG hgrow
          have HB4 := hide (GwZ.bel (unhide GW3) (unhide HB3) (Nat.le_refl _) hgrow)
          have GW4 := hide hG
          have AT4 : Hid (∀ j p, j < i + 1 → (coL l)[j]? = some p → AtZ (us ++ [(u, d)]) j p) := hide (fun j p hj hp => by
            by_cases e : j = i
            · subst e
              rw [coL_get (unhide My)] at hp
              obtain rfl := Option.some.inj hp
              exact ⟨(u, d), by rw [List.getElem?_append_right (by omega), hu, Nat.sub_self]; rfl, unhide HD⟩
            · obtain ⟨y', q1, q2⟩ := (unhide AT) j p (by omega) hp
              exact ⟨y', by rw [List.getElem?_append_left (List.getElem?_eq_some_iff.1 q1).1]; exact q1, q2⟩)
          clear hG hgrow GW3 HB3 HB AT
          go_wp2
          go_roundw
          case rel => exact ⟨i + 1, us ++ [(u, d)], by omega, by go_num, by simp [hu], GW4, AT4, HB4⟩
          case measure => simp [intOf]; omega
        · obtain rfl : i = n := by omega
          have IC : Hid (IsC (coL l) (us.map Prod.snd)) := hide (atZ_isC (by rw [hu, coL_len, unhide HN]) (fun k p hp => by
            have hk : k < i := by have := (List.getElem?_eq_some_iff.1 hp).1; rw [coL_len, unhide HN] at this; exact this
            exact (unhide AT) k p hk hp))
          obtain ⟨a3, c3, e3, _, p3⟩ := (unhide GW).arg
          rw [hu] at e3 p3
          subst e3
          have P3 := hide p3.sl
          clear p3 GW
          go_wp2
          go_ret2
          exact ⟨_, _, _, us, true, rfl, unhide HB, unhide P3, hu, .inl ⟨rfl, _, unhide IC, .inl ⟨rfl, rfl, rfl⟩⟩⟩
end Go.Proofs.Ytokajpeopijneaa
namespace Go.Proofs.Ytokajpeopijneaa
open Go.ChangeShapes Go.WideShapes Go.ChangeAt Go.RowKit Go.Joins
set_option linter.unusedVariables false
set_option maxRecDepth 100000
set_option linter.unusedSimpArgs false

theorem own : ownKnob Try.prog.godebug = none := by kernel_rfl
theorem laidOut : laidOutB Try.prog = true := by kernel_rfl
theorem Try.cells3 : Try.prog.cellsOf 3 = 1 := by kernel_rfl

end Go.Proofs.Ytokajpeopijneaa
namespace Go.Proofs.Ytokajpeopijneaa
open Go.ChangeShapes Go.WideShapes Go.ChangeAt Go.RowKit Go.Joins
set_option linter.unusedVariables false
set_option maxRecDepth 100000

def ioSigns : List Char := [104, 97, 114, 110, 101, 115, 115, 32, 57, 51, 100, 57, 53, 49, 98, 102, 49, 49, 50, 97, 53, 50, 98, 55, 49, 100, 102, 101, 98, 52, 51, 57, 97, 48, 52, 48, 56, 49, 101, 48, 100, 48, 100, 56, 55, 56, 56, 54, 48, 57, 51, 50, 51, 97, 57, 51, 99, 51, 97, 50, 49, 101, 50, 53, 49, 99, 102, 57, 56, 54, 52, 99, 32, 99, 117, 116, 32, 97, 116, 32, 108, 111, 111, 112, 46, 101, 120, 97, 109, 112, 108, 101, 47, 103, 48, 48, 52, 48, 57, 47, 108, 97, 119, 115, 46, 70, 110, 69, 120, 97, 99, 116, 67, 117, 114, 118, 101, 79, 102, 32, 108, 111, 111, 112, 46, 101, 120, 97, 109, 112, 108, 101, 47, 103, 48, 48, 52, 48, 57, 47, 108, 97, 119, 115, 46, 70, 110, 69, 120, 97, 99, 116, 82, 105, 110, 103, 79, 102].map Char.ofNat
theorem io_eq : Try.pinned.checked.prog.initOrder = String.ofList ioSigns := by kernel_rfl
theorem io_list : Try.pinned.checked.prog.initOrder.toList = ioSigns := by rw [io_eq, String.toList_ofList]
theorem io_words : behindMainWord (wordsSigns Try.pinned.checked.prog.initOrder.toList) = "cut".toList :: (wordsSigns (ioSigns.drop 77)) := by rw [io_list]; kernel_rfl
theorem make_of (P : Program) (rest : List (List Char)) (h : behindMainWord (wordsSigns P.initOrder.toList) = "cut".toList :: rest) : P.make = some .cut := by
  unfold Program.make
  rw [h]
  kernel_rfl
theorem strip_of (rest : List (List Char)) : stripLifts liftWords ("cut".toList :: rest) = ([], "cut".toList :: rest) := by kernel_rfl
theorem enter_of (P : Program) (rest : List (List Char)) (h : behindMainWord (wordsSigns P.initOrder.toList) = "cut".toList :: rest) (h1 : P.laysLater = false) (h2 : P.bearsReflect = false) (h3 : P.doorFits [] = true) : P.mayEnter = true := by
  unfold Program.mayEnter
  rw [h]
  simp only [strip_of, h1, h2, h3]
  kernel_rfl
theorem io_lays : Try.pinned.checked.prog.laysLater = false := by
  unfold Program.laysLater
  rw [← Array.any_toList]
  kernel_rfl
theorem io_refl : Try.pinned.checked.prog.bearsReflect = false := by kernel_rfl
theorem io_head : Try.pinned.checked.prog.headLifts = [] := by
  unfold Program.headLifts
  rw [io_words]
  kernel_rfl
theorem io_door : Try.pinned.checked.prog.doorFits [] = true := by kernel_rfl
theorem io_enter : Try.pinned.checked.prog.mayEnter = true := enter_of _ _ io_words io_lays io_refl io_door
theorem io_lifts : Try.pinned.checked.prog.liftsFinal = false := by
  unfold Program.liftsFinal
  rw [io_words, io_head]
  kernel_rfl
theorem io_make : Try.pinned.checked.prog.make = some .cut := make_of _ _ io_words
end Go.Proofs.Ytokajpeopijneaa
namespace Go.Proofs.Ytokajpeopijneaa
open Go.ChangeShapes Go.WideShapes Go.ChangeAt Go.RowKit Go.Joins
set_option linter.unusedVariables false
set_option maxRecDepth 100000
set_option linter.unusedSimpArgs false

theorem cellsLPt : Try.prog.cellsOf 47 = 2 := by kernel_rfl
theorem open_T {H : Type} {enc : TypeId × Value → H} {W : World} {r : Reach} {b0 : Nat} {v : Value} {d : DataW H} {p : List MemPlace}
    (hv : Value.okWide Try.prog W r b0 47 v) (h : DataW.Trod enc Try.prog W 0 (fun _ => true) true 47 v d p) :
    ∃ q : Int × Int, v = .agg #[.int .i64 q.1, .int .i64 q.2] := by
  obtain ⟨c0, c1, y0, y1, m, rfl, _, _, hy0, hy1⟩ := open_agg2 Try.underlying47 (by kernel_rfl) cellsLPt hv h
  obtain ⟨x, e0, _, _⟩ := DataW.trod_int Try.underlying3 hy0
  obtain ⟨y, e1, _, _⟩ := DataW.trod_int Try.underlying3 hy1
  simp only [List.cons.injEq, and_true] at e0 e1
  subst e0 e1
  exact ⟨(x, y), rfl⟩
theorem open_ptc {H : Type} {enc : TypeId × Value → H} {W : World} {m : Nat} {c0 c1 : Value} {x : DataW H × List MemPlace}
    (hf : DataW.trod enc Try.prog W 0 (fun _ => true) true m 47 [c0, c1] = some x) : ∃ q : Int × Int, c0 = .int .i64 q.1 ∧ c1 = .int .i64 q.2 := by
  obtain ⟨y0, y1, n, hx, _, h0, h1⟩ := trod_struct2 Try.underlying47 hf
  have c_i : Try.prog.cellsOf 3 = 1 := by kernel_rfl
  obtain ⟨x, e0, _, _⟩ := DataW.trod_int Try.underlying3 (show DataW.trod enc Try.prog W 0 (fun _ => true) true n 3 [c0] = some y0 by simpa [c_i] using h0)
  obtain ⟨y, e1, _, _⟩ := DataW.trod_int Try.underlying3 (show DataW.trod enc Try.prog W 0 (fun _ => true) true n 3 [c1] = some y1 by simpa [c_i] using h1)
  simp only [List.cons.injEq, and_true] at e0 e1
  exact ⟨(x, y), e0, e1⟩
theorem addr_addP (b off k : Nat) : (⟨b, off, none⟩ : Addr).add k = ⟨b, off + k, none⟩ := by
  unfold Addr.add
  split
  · rename_i h; subst h; rfl
  · rfl
theorem open_TS {H : Type} {enc : TypeId × Value → H} {W : World} {r : Reach} {b0 : Nat} {v : Value} {d : DataW H} {p : List MemPlace}
    (hv : Value.okWide Try.prog W r b0 22 v) (h : DataW.Trod enc Try.prog W 0 (fun _ => true) true 22 v d p) :
    ∃ (a : Option Addr) (n c : Nat) (l : List (Int × Int)), v = .slice a n c ∧ SlP W a l ∧ l.length = n ∧ n ≤ maxLen := by
  obtain ⟨a, n, c, rfl⟩ := okWide_slice Try.underlying22 hv
  obtain ⟨fuel, hf⟩ := h
  rcases Go.Deep.open_slice Try.underlying22 hf with ⟨hcs, _⟩ | ⟨a', len, cap, m, n', D, Pl, hcs, _, hl, hm, hmm, _, hx⟩
  · simp only [Value.cells, List.cons.injEq, Value.slice.injEq, and_true] at hcs
    obtain ⟨rfl, rfl, rfl⟩ := hcs
    exact ⟨none, 0, 0, [], rfl, .inl rfl, rfl, Nat.zero_le _⟩
  · simp only [Value.cells, List.cons.injEq, Value.slice.injEq, and_true] at hcs
    obtain ⟨rfl, rfl, rfl⟩ := hcs
    simp only [if_true] at hmm
    subst hmm
    have each : ∀ i, i < n → ∃ q : Int × Int, W.cell? ((a'.add (i * 2)).add 0) = some (.int .i64 q.1) ∧ W.cell? ((a'.add (i * 2)).add 1) = some (.int .i64 q.2) := by
      intro i hi
      obtain ⟨cs, h1, h2⟩ := hx i (by omega)
      rw [cellsLPt] at h1
      obtain ⟨_, h3, h4⟩ := World.cells?_some h1
      match cs, h3 with
      | [c0, c1], _ =>
        obtain ⟨q, rfl, rfl⟩ := open_ptc h2
        exact ⟨q, h4 0 (by omega), h4 1 (by omega)⟩
    obtain ⟨f, hf⟩ := Go.Deep.choose_lt each
    refine ⟨some a', n, m, (List.range n).map f, rfl, ?_, by simp, Nat.le_trans hl hm⟩
    by_cases h0 : n = 0
    · subst h0; exact .inl rfl
    · obtain ⟨b, off, spot⟩ := a'
      have hc := (hf 0 (by omega)).1
      have hspot : spot = none := by simpa [Addr.add] using World.cell?_spot hc
      subst hspot
      refine .inr ⟨b, off, rfl, ?_, fun i hi => ?_⟩
      · have := World.block_lt_of_cell? _ _ hc
        rw [addr_addP, addr_addP] at this
        exact this
      · have hi' : i < n := by simpa using hi
        have h1 := hf i hi'
        rw [addr_addP, addr_addP, addr_addP] at h1
        simpa using h1
end Go.Proofs.Ytokajpeopijneaa
namespace Go.Proofs.Ytokajpeopijneaa
open Go.RowKit
set_option linter.unusedVariables false
set_option maxRecDepth 100000
set_option linter.unusedSimpArgs false

/-- A good fraction of at most 8 limbs each; a ring. -/
def gF8 (d : QD) : Bool := smk 8 d && gQ d
def gPt8 (d : SD) : Bool := gF8 d.lo && gF8 d.hi
def lgR (d : SD) : Bool := !(smk 8 d.lo && smk 8 d.hi)
def fitR (l : List SD) : Bool := decide (l.length ≤ 40) && !l.any lgR
def gRg (l : List SD) : Bool := decide (l.length ≤ 40) && l.all gPt8
theorem gRg_parts (l : List SD) : gRg l = (fitR l && !l.any bdP) := by
  unfold gRg fitR
  have h : l.all gPt8 = (!l.any lgR && !l.any bdP) := by
    induction l with
    | nil => rfl
    | cons d l ih =>
      simp only [List.all_cons, List.any_cons, ih]
      unfold gPt8 gF8 lgR bdP
      cases smk 8 d.lo <;> cases smk 8 d.hi <;> cases gQ d.lo <;> cases gQ d.hi <;> simp
  rw [h, Bool.and_assoc]
theorem gRg_mem {ds : List SD} (h : gRg ds = true) : ds.length ≤ 40 ∧ ∀ d ∈ ds, gPt8 d = true := by
  unfold gRg at h
  simp only [Bool.and_eq_true, decide_eq_true_eq] at h
  exact ⟨h.1, fun d hd => List.all_eq_true.1 h.2 d hd⟩
theorem dp_good8 {d : SD} (h : gPt8 d = true) : IsDP (vP d) d := by
  unfold gPt8 gF8 at h
  simp only [Bool.and_eq_true] at h
  have e1 := vQ_gQ h.1.2
  have e2 := vQ_gQ h.2.2
  have p1 := goodR_parts (by have := h.1.2; unfold gQ at this; exact this)
  have p2 := goodR_parts (by have := h.2.2; unfold gQ at this; exact this)
  have a := svZ p1.1
  have b := svZ p1.2
  have c := svZ p2.1
  have e := svZ p2.2
  have f1 : nR (vP d).1 = sv d.lo.num.g d.lo.num.xs := e1.1.symm
  have f2 : dR (vP d).1 = sv d.lo.den.g d.lo.den.xs := e1.2.symm
  have f3 : nR (vP d).2 = sv d.hi.num.g d.hi.num.xs := e2.1.symm
  have f4 : dR (vP d).2 = sv d.hi.den.g d.hi.den.xs := e2.2.symm
  exact ⟨by rw [f1]; exact a.1, by rw [f1]; exact a.2, by rw [f2]; exact b.1, by rw [f2]; exact b.2, by rw [f3]; exact c.1, by rw [f3]; exact c.2, by rw [f4]; exact e.1, by rw [f4]; exact e.2⟩
theorem isC_good8 {l : List (SV × SD)} (h : gRg (l.map Prod.snd) = true) : IsC (vC l) (l.map Prod.snd) := by
  refine ⟨by rw [vC_len]; simp, fun i p d hp hd => ?_⟩
  rw [List.getElem?_map] at hd
  unfold vC at hp
  rw [List.getElem?_map] at hp
  cases hy : l[i]? with
  | none => rw [hy] at hp; cases hp
  | some y =>
    rw [hy] at hp hd
    obtain rfl := Option.some.inj hp
    obtain rfl := Option.some.inj hd
    exact dp_good8 ((gRg_mem h).2 _ (List.mem_map.2 ⟨y, List.mem_of_getElem? hy, rfl⟩))
theorem bdR_smk {d : QD} {K : Nat} (hg : gQ d = true) (hs : smk K d = true) : BdR (vQ d) K := by
  have e := vQ_gQ hg
  have p := goodR_parts (by unfold gQ at hg; exact hg)
  unfold smk at hs
  simp only [Bool.and_eq_true, decide_eq_true_eq] at hs
  refine ⟨?_, ?_⟩
  · rw [← e.1]; exact (svZ p.1).2.bd hs.1
  · rw [← e.2]; exact (svZ p.2).2.bd hs.2
theorem bdC_good8 {l : List (SV × SD)} (h : gRg (l.map Prod.snd) = true) : BdC (vC l) 8 := fun p hp => by
  obtain ⟨y, hy, rfl⟩ := List.mem_map.1 hp
  have h1 := (gRg_mem h).2 y.2 (List.mem_map.2 ⟨y, hy, rfl⟩)
  unfold gPt8 gF8 at h1
  simp only [Bool.and_eq_true] at h1
  exact ⟨bdR_smk h1.1.2 h1.1.1, bdR_smk h1.2.2 h1.2.1⟩
theorem BdC.mono {ps : List (Rat × Rat)} {L K : Nat} (h : BdC ps L) (k : L ≤ K) : BdC ps K := fun p hp => ⟨(h p hp).x.mono k, (h p hp).y.mono k⟩
theorem rdC_good8 {w : World} {a : Option Addr} {n c : Nat} {l : List (SV × SD)} (h : PArS w a n c l) (hg : gRg (l.map Prod.snd) = true) : RdC w a n c l (vC l) := ⟨h, isC_good8 hg⟩

end Go.Proofs.Ytokajpeopijneaa
namespace Go.Proofs.Ytokajpeopijneaa
open Go.RowKit
set_option linter.unusedVariables false
set_option maxRecDepth 100000
set_option linter.unusedSimpArgs false

theorem wayB_mem {l : List (Int × Int)} (h : wayB l = true) : (3 ≤ l.length ∧ l.length ≤ 12) ∧ ∀ p ∈ l, gPt p = true := by
  unfold wayB inR at h
  simp only [Bool.and_eq_true, decide_eq_true_eq] at h
  exact ⟨by omega, fun p hp => List.all_eq_true.1 h.2 p hp⟩

set_option maxHeartbeats 8000000 in
theorem RioI (a : Option Addr) (n c : Nat) (l : List (Int × Int)) (w : World) (h : ArP w a n c l) :
    Calls Try.prog 15 #[.slice a n c] w (RetPoZ w (AnsC (wayB l) (fun _ => true) (coL l))) := by
  have HS := hide h
  have HN := hide h.len
  have hm : n ≤ maxLen := Nat.le_trans h.cap h.top
  have hl := h.len
  clear h
  have C1 := hide (fun w1 (k : SlP w1 a l) => wayI a n c l w1 k hl hm)
  clear hm
  cases hg : wayB l
  · rw [hg] at C1
    go_enter Try.func15, Try.ntmps15
    go_wp2_with fail
    refine (unhide C1 _ (unhide HS).sl).mono ?_
    rintro e w2 ⟨rfl, hb⟩
    have HB := hide hb
    clear hb
    go_wp2
    go_ret2
    exact ⟨none, 0, 0, [], false, rfl, unhide HB, PRoZ.none _ _ _, .inr ⟨rfl, rfl, rfl⟩⟩
  · rw [hg] at C1
    have HG := hide hg
    have n5 : 3 ≤ n ∧ n ≤ 12 := by have := (wayB_mem hg).1; rw [hl] at this; exact this
    clear hg
    go_enter Try.func15, Try.ntmps15
    go_wp2_with fail
    refine (unhide C1 _ (unhide HS).sl).mono ?_
    rintro e w1 ⟨rfl, hb⟩
    have HB1 := hide hb
    have s1 := hb.size
    clear hb C1
    go_wp2_with fail
    refine (rptsofI _ _ _ l _ ((unhide HS).sl.later (unhide HB1)) (unhide HN) (wayB_mem (unhide HG)).2 (by omega)).mono ?_
    rintro e w2 ⟨a2, n2, c2, l2, rfl, hb2, ro, rd⟩
    have HB := hide (below_on (unhide HB1) hb2)
    have R1 := hide (ro.wide s1 (Nat.le_refl _))
    have IC := hide rd.is
    clear hb2 ro rd
    go_wp2
    go_ret2
    exact ⟨_, _, _, l2, true, rfl, unhide HB, unhide R1, .inl ⟨rfl, _, unhide IC, .inl ⟨rfl, rfl, rfl⟩⟩⟩

set_option maxHeartbeats 8000000 in
theorem RioS (a : Option Addr) (n c : Nat) (l : List (Int × Int)) (w : World) (h : ArP w a n c l) :
    Calls Try.prog 14 #[.slice a n c] w (RetPrZ w (AnsC (wayB l) (fun _ => true) (coL l))) := by
  have HS := hide h
  have HN := hide h.len
  have hm : n ≤ maxLen := Nat.le_trans h.cap h.top
  have hl := h.len
  clear h
  have C1 := hide (fun w1 (k : SlP w1 a l) => wayS a n c l w1 k hl hm)
  clear hm
  cases hg : wayB l
  · rw [hg] at C1
    go_enter Try.func14, Try.ntmps14
    go_wp2_with fail
    refine (unhide C1 _ (unhide HS).sl).mono ?_
    rintro e w2 ⟨rfl, hb⟩
    have HB := hide hb
    clear hb
    go_wp2
    go_ret2
    exact ⟨none, 0, 0, [], false, rfl, unhide HB, ⟨.inl rfl, fun p hp => (by cases hp)⟩, rfl, .inr ⟨rfl, rfl, rfl⟩⟩
  · rw [hg] at C1
    have HG := hide hg
    have n5 : 3 ≤ n ∧ n ≤ 12 := by have := (wayB_mem hg).1; rw [hl] at this; exact this
    clear hg
    go_enter Try.func14, Try.ntmps14
    go_wp2_with fail
    refine (unhide C1 _ (unhide HS).sl).mono ?_
    rintro e w1 ⟨rfl, hb⟩
    have HB1 := hide hb
    have s1 := hb.size
    clear hb C1
    go_wp2
    go_loopw [4, 12] (fun x iv wr => ∃ (i : Nat) (us : List (SV × SD)), i ≤ n ∧ iv = .int .i64 i ∧ us.length = i ∧ Hid (GwZ w.heap.size wr x us) ∧ Hid (∀ j p, j < i → (coL l)[j]? = some p → AtZ us j p) ∧ Hid (Below w.heap.size w wr)) (fun _ iv _ => n - (intOf iv).toNat)
    case atStart => exact ⟨0, [], Nat.zero_le _, rfl, rfl, hide (GwZ.nil _ _), hide (fun j p hj => absurd hj (Nat.not_lt_zero _)), HB1⟩
    case round =>
      clear HB1
      obtain ⟨i, us, hi', rfl, hu, GW, AT, HB⟩ := hrel
      by_cases hlt : i < n
      · have hlt' : (i : Int) < (n : Int) := by omega
        rcases (unhide HS).sl with e | ⟨b, off, rfl, hb, hcb⟩
        · exact absurd (unhide HN) (by rw [e]; simp <;> omega)
        have e0 := hcb i (by rw [unhide HN]; exact hlt)
        obtain ⟨y, hy⟩ : ∃ y, y = l[i]'(by rw [unhide HN]; exact hlt) := ⟨_, rfl⟩
        rw [← hy] at e0
        have My : Hid (l[i]? = some y) := hide (by rw [hy]; exact List.getElem?_eq_getElem _)
        have GY := gPt_in ((wayB_mem (unhide HG)).2 y (by rw [hy]; exact List.getElem_mem _))
        have P0 : wr.cell? ⟨b, off + i * 2, none⟩ = some (.int .i64 y.1) := ((unhide HB).cell (p := ⟨b, off + i * 2, none⟩) hb).trans e0.1
        have P1 : wr.cell? ⟨b, off + i * 2 + 1, none⟩ = some (.int .i64 y.2) := ((unhide HB).cell (p := ⟨b, off + i * 2 + 1, none⟩) hb).trans e0.2
        clear hy e0 hcb
        have al : Below wr.heap.size wr (wr.alloc (.cells #[.int .i64 y.1, .int .i64 y.2] 37)) := (Below.refl _ _).alloc (Nat.le_refl _) _
        have AL := hide al
        clear al
        go_wp2_with fail
        refine (calls_dp (ofS y.1 y.2 _ (by omega) (by omega) (by omega) (by omega))).mono ?_
        rintro e w3 ⟨u, d, rfl, hb3, ho, ha, hd⟩
        have fr := below_on (unhide AL) hb3
        have a3 : Below w3.heap.size w3 (w3.alloc (.cells #[.bool u.lo.num.g, .slice u.lo.num.a u.lo.num.n u.lo.num.c, .bool u.lo.den.g, .slice u.lo.den.a u.lo.den.n u.lo.den.c, .bool u.hi.num.g, .slice u.hi.num.a u.hi.num.n u.hi.num.c, .bool u.hi.den.g, .slice u.hi.den.a u.hi.den.n u.hi.den.c] 44)) := (Below.refl _ _).alloc (Nat.le_refl _) _
        have fr3 := below_on fr a3
        have GW3 := hide ((unhide GW).later fr3)
        have TY3 := hide (ho.typZ.later a3)
        have AR3 := hide (ha.later a3)
        have HB3 := hide (below_on (unhide HB) fr3)
        have zz := (below_on (unhide HB) fr).size
        have HD := hide hd
        clear hb3 ho ha hd fr a3 fr3 P0 P1 GW AL
        go_wp2_with (at_builtin; refine appZ rfl (.tmp 16) (.tmp 19) rfl w.heap.size _ us rfl (unhide GW3) w3.heap.size u d rfl (heap_alloc_new _ _) (unhide TY3) (unhide AR3) (by omega) (by simp; omega) ?_)
        intro g cap w4 hG hgrow
        have HB4 := hide (GwZ.bel (unhide GW3) (unhide HB3) (Nat.le_refl _) hgrow)
        have GW4 := hide hG
        have AT4 : Hid (∀ j p, j < i + 1 → (coL l)[j]? = some p → AtZ (us ++ [(u, d)]) j p) := hide (fun j p hj hp => by
          by_cases e : j = i
          · subst e
            rw [coL_get (unhide My)] at hp
            obtain rfl := Option.some.inj hp
            exact ⟨(u, d), by rw [List.getElem?_append_right (by omega), hu, Nat.sub_self]; rfl, unhide HD⟩
          · obtain ⟨y', q1, q2⟩ := (unhide AT) j p (by omega) hp
            exact ⟨y', by rw [List.getElem?_append_left (List.getElem?_eq_some_iff.1 q1).1]; exact q1, q2⟩)
        clear hG hgrow GW3 HB3 HB AT
        go_wp2
        go_roundw
        case rel => exact ⟨i + 1, us ++ [(u, d)], by omega, by go_num, by simp [hu], GW4, AT4, HB4⟩
        case measure => simp [intOf]; omega
      · obtain rfl : i = n := by omega
        have IC : Hid (IsC (coL l) (us.map Prod.snd)) := hide (atZ_isC (by rw [hu, coL_len, unhide HN]) (fun k p hp => by
          have hk : k < i := by have := (List.getElem?_eq_some_iff.1 hp).1; rw [coL_len, unhide HN] at this; exact this
          exact (unhide AT) k p hk hp))
        obtain ⟨a3, c3, e3, _, p3⟩ := (unhide GW).arg
        rw [hu] at e3 p3
        subst e3
        have P3 := hide p3.sl
        clear p3 GW
        go_wp2
        go_ret2
        exact ⟨_, _, _, us, true, rfl, unhide HB, unhide P3, hu, .inl ⟨rfl, _, unhide IC, .inl ⟨rfl, rfl, rfl⟩⟩⟩

end Go.Proofs.Ytokajpeopijneaa

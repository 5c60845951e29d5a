/- The walk through the law FnExactMulSpan: it returns true. No condition beyond those typed. Written by mklaw.py. -/
import Derived.Test.YtlmeokeanihhoaaFlatQ
import Derived.Test.YtlmeokeanihhoaaRatF
namespace Go.Proofs.Ytlmeokeanihhoaa
open Go.RowKit
set_option linter.unusedVariables false
set_option maxRecDepth 100000
set_option linter.unusedSimpArgs false

theorem szS_in (v : SV) (left : Int) (w : World) (h0 : 0 ≤ left) (h1 : left ≤ 1048576) (h : (v.lo.num.n : Int) + (v.lo.den.n : Int) + (v.hi.num.n : Int) + (v.hi.den.n : Int) ≤ left) :
    Calls Try.prog 34 #[.agg #[.bool v.lo.num.g, .slice v.lo.num.a v.lo.num.n v.lo.num.c, .bool v.lo.den.g, .slice v.lo.den.a v.lo.den.n v.lo.den.c, .bool v.hi.num.g, .slice v.hi.num.a v.hi.num.n v.hi.num.c, .bool v.hi.den.g, .slice v.hi.den.a v.hi.den.n v.hi.den.c], .int .i64 left] w fun e w' => e = .returned (.int .i64 (left - (v.lo.num.n : Int) - (v.lo.den.n : Int) - (v.hi.num.n : Int) - (v.hi.den.n : Int))) ∧ Below w.heap.size w w' := by
  have k1 : ¬ (left - (v.lo.num.n : Int) - (v.lo.den.n : Int) < 0) := by omega
  have k2 : ¬ (left - (v.lo.num.n : Int) - (v.lo.den.n : Int) - (v.hi.num.n : Int) - (v.hi.den.n : Int) < 0) := by omega
  go_enter Try.func34, Try.ntmps34
  go_wp2_with fail
  refine (szQ_in v.lo left _ h0 h1 (by omega)).mono ?_
  rintro e w1 ⟨rfl, hb1⟩
  have y4 : w1.cell? ⟨w.heap.size, 4, none⟩ = some (.bool v.hi.num.g) := cell_later hb1 (by simp [go_sem])
  have y5 : w1.cell? ⟨w.heap.size, 5, none⟩ = some (.slice v.hi.num.a v.hi.num.n v.hi.num.c) := cell_later hb1 (by simp [go_sem])
  have y6 : w1.cell? ⟨w.heap.size, 6, none⟩ = some (.bool v.hi.den.g) := cell_later hb1 (by simp [go_sem])
  have y7 : w1.cell? ⟨w.heap.size, 7, none⟩ = some (.slice v.hi.den.a v.hi.den.n v.hi.den.c) := cell_later hb1 (by simp [go_sem])
  have HB := hide (ba hb1)
  clear hb1
  go_wp2_with fail
  refine (szQ_in v.hi _ _ (by omega) (by omega) (by omega)).mono ?_
  rintro e w2 ⟨rfl, hb2⟩
  have HB2 := hide (below_on (unhide HB) hb2)
  clear hb2
  go_wp2
  go_ret
  exact ⟨rfl, unhide HB2⟩

theorem szS_out (v : SV) (left : Int) (w : World) (h0 : 0 ≤ left) (h1 : left ≤ 1048576) (hm0 : v.lo.num.n ≤ maxLen) (hm1 : v.lo.den.n ≤ maxLen) (hm2 : v.hi.num.n ≤ maxLen) (hm3 : v.hi.den.n ≤ maxLen) (h : left < (v.lo.num.n : Int) + (v.lo.den.n : Int) + (v.hi.num.n : Int) + (v.hi.den.n : Int)) :
    Calls Try.prog 34 #[.agg #[.bool v.lo.num.g, .slice v.lo.num.a v.lo.num.n v.lo.num.c, .bool v.lo.den.g, .slice v.lo.den.a v.lo.den.n v.lo.den.c, .bool v.hi.num.g, .slice v.hi.num.a v.hi.num.n v.hi.num.c, .bool v.hi.den.g, .slice v.hi.den.a v.hi.den.n v.hi.den.c], .int .i64 left] w fun e w' => e = .returned (.int .i64 (-1)) ∧ Below w.heap.size w w' := by
  by_cases hn : left < (v.lo.num.n : Int) + (v.lo.den.n : Int)
  · go_enter Try.func34, Try.ntmps34
    go_wp2_with fail
    refine (szQ_out v.lo left _ h0 h1 hm0 hm1 hn).mono ?_
    rintro e w1 ⟨rfl, hb1⟩
    have HB := hide (ba hb1)
    clear hb1
    go_wp2
    go_ret
    exact ⟨rfl, unhide HB⟩
  · have k1 : ¬ (left - (v.lo.num.n : Int) - (v.lo.den.n : Int) < 0) := by omega
    go_enter Try.func34, Try.ntmps34
    go_wp2_with fail
    refine (szQ_in v.lo left _ h0 h1 (by omega)).mono ?_
    rintro e w1 ⟨rfl, hb1⟩
    have y4 : w1.cell? ⟨w.heap.size, 4, none⟩ = some (.bool v.hi.num.g) := cell_later hb1 (by simp [go_sem])
    have y5 : w1.cell? ⟨w.heap.size, 5, none⟩ = some (.slice v.hi.num.a v.hi.num.n v.hi.num.c) := cell_later hb1 (by simp [go_sem])
    have y6 : w1.cell? ⟨w.heap.size, 6, none⟩ = some (.bool v.hi.den.g) := cell_later hb1 (by simp [go_sem])
    have y7 : w1.cell? ⟨w.heap.size, 7, none⟩ = some (.slice v.hi.den.a v.hi.den.n v.hi.den.c) := cell_later hb1 (by simp [go_sem])
    have HB := hide (ba hb1)
    clear hb1
    go_wp2_with fail
    refine (szQ_out v.hi _ _ (by omega) (by omega) hm2 hm3 (by omega)).mono ?_
    rintro e w2 ⟨rfl, hb2⟩
    have HB2 := hide (below_on (unhide HB) hb2)
    clear hb2
    go_wp2
    go_ret
    exact ⟨rfl, unhide HB2⟩

theorem AllSl.Sl {w : World} {v : SV} {d : SD} (h : AllSl w [(v.lo.num, d.lo.num), (v.lo.den, d.lo.den), (v.hi.num, d.hi.num), (v.hi.den, d.hi.den)]) : AllSl w [(v.lo.num, d.lo.num), (v.lo.den, d.lo.den)] := fun p hp => h p (show p ∈ [(v.lo.num, d.lo.num), (v.lo.den, d.lo.den), (v.hi.num, d.hi.num), (v.hi.den, d.hi.den)] from (List.mem_append_left [(v.hi.num, d.hi.num), (v.hi.den, d.hi.den)] hp : p ∈ [(v.lo.num, d.lo.num), (v.lo.den, d.lo.den)] ++ [(v.hi.num, d.hi.num), (v.hi.den, d.hi.den)]))
theorem AllSl.Sr {w : World} {v : SV} {d : SD} (h : AllSl w [(v.lo.num, d.lo.num), (v.lo.den, d.lo.den), (v.hi.num, d.hi.num), (v.hi.den, d.hi.den)]) : AllSl w [(v.hi.num, d.hi.num), (v.hi.den, d.hi.den)] := fun p hp => h p (show p ∈ [(v.lo.num, d.lo.num), (v.lo.den, d.lo.den), (v.hi.num, d.hi.num), (v.hi.den, d.hi.den)] from (List.mem_append_right [(v.lo.num, d.lo.num), (v.lo.den, d.lo.den)] hp : p ∈ [(v.lo.num, d.lo.num), (v.lo.den, d.lo.den)] ++ [(v.hi.num, d.hi.num), (v.hi.den, d.hi.den)]))
theorem AllAr.Sl {w : World} {v : SV} {d : SD} (h : AllAr w [(v.lo.num, d.lo.num), (v.lo.den, d.lo.den), (v.hi.num, d.hi.num), (v.hi.den, d.hi.den)]) : AllAr w [(v.lo.num, d.lo.num), (v.lo.den, d.lo.den)] := fun p hp => h p (show p ∈ [(v.lo.num, d.lo.num), (v.lo.den, d.lo.den), (v.hi.num, d.hi.num), (v.hi.den, d.hi.den)] from (List.mem_append_left [(v.hi.num, d.hi.num), (v.hi.den, d.hi.den)] hp : p ∈ [(v.lo.num, d.lo.num), (v.lo.den, d.lo.den)] ++ [(v.hi.num, d.hi.num), (v.hi.den, d.hi.den)]))
theorem AllAr.Sr {w : World} {v : SV} {d : SD} (h : AllAr w [(v.lo.num, d.lo.num), (v.lo.den, d.lo.den), (v.hi.num, d.hi.num), (v.hi.den, d.hi.den)]) : AllAr w [(v.hi.num, d.hi.num), (v.hi.den, d.hi.den)] := fun p hp => h p (show p ∈ [(v.lo.num, d.lo.num), (v.lo.den, d.lo.den), (v.hi.num, d.hi.num), (v.hi.den, d.hi.den)] from (List.mem_append_right [(v.lo.num, d.lo.num), (v.lo.den, d.lo.den)] hp : p ∈ [(v.lo.num, d.lo.num), (v.lo.den, d.lo.den)] ++ [(v.hi.num, d.hi.num), (v.hi.den, d.hi.den)]))

set_option maxHeartbeats 4000000 in
theorem toS_at (v : SV) (d : SD) (w : World) (h : AllSl w [(v.lo.num, d.lo.num), (v.lo.den, d.lo.den), (v.hi.num, d.hi.num), (v.hi.den, d.hi.den)]) (h1 : v.lo.num.n ≤ 1048576) (h2 : v.lo.den.n ≤ 1048576) (h3 : v.hi.num.n ≤ 1048576) (h4 : v.hi.den.n ≤ 1048576) :
    Calls Try.prog 36 #[.agg #[.bool v.lo.num.g, .slice v.lo.num.a v.lo.num.n v.lo.num.c, .bool v.lo.den.g, .slice v.lo.den.a v.lo.den.n v.lo.den.c, .bool v.hi.num.g, .slice v.hi.num.a v.hi.num.n v.hi.num.c, .bool v.hi.den.g, .slice v.hi.den.a v.hi.den.n v.hi.den.c]] w fun e w' => ∃ u : SV, e = .returned (.agg #[.bool u.lo.num.g, .slice u.lo.num.a u.lo.num.n u.lo.num.c, .bool u.lo.den.g, .slice u.lo.den.a u.lo.den.n u.lo.den.c, .bool u.hi.num.g, .slice u.hi.num.a u.hi.num.n u.hi.num.c, .bool u.hi.den.g, .slice u.hi.den.a u.hi.den.n u.hi.den.c]) ∧ Below w.heap.size w w' ∧ (u.lo.num.n = v.lo.num.n ∧ u.lo.den.n = v.lo.den.n ∧ u.hi.num.n = v.hi.num.n ∧ u.hi.den.n = v.hi.den.n) ∧ AllOwn w.heap.size w'.heap.size w' [(u.lo.num, d.lo.num), (u.lo.den, d.lo.den), (u.hi.num, d.hi.num), (u.hi.den, d.hi.den)] ∧ AllAr w' [(u.lo.num, d.lo.num), (u.lo.den, d.lo.den), (u.hi.num, d.hi.num), (u.hi.den, d.hi.den)] := by
  have HX := hide h
  clear h
  have B3 := hide (below_three w (.cells #[.bool v.lo.num.g, .slice v.lo.num.a v.lo.num.n v.lo.num.c, .bool v.lo.den.g, .slice v.lo.den.a v.lo.den.n v.lo.den.c, .bool v.hi.num.g, .slice v.hi.num.a v.hi.num.n v.hi.num.c, .bool v.hi.den.g, .slice v.hi.den.a v.hi.den.n v.hi.den.c] 38) (.cells #[.bool false, .slice none 0 0, .bool false, .slice none 0 0, .bool false, .slice none 0 0, .bool false, .slice none 0 0] 41) (.cells #[.bool false, .slice none 0 0, .bool false, .slice none 0 0, .bool false, .slice none 0 0, .bool false, .slice none 0 0] 41))
  go_enter Try.func36, Try.ntmps36
  go_wp2_with fail
  refine (toQ_at v.lo d.lo _ ((unhide HX).Sl.later (unhide B3)) h1 h2).mono ?_
  rintro e w1 ⟨u1, rfl, hb1, hn1, ow1, ar1⟩
  have hs1 : w.heap.size + 3 ≤ w1.heap.size := by have := hb1.size; simp at this; omega
  have ow1' : AllOwn (w.heap.size + 3) w1.heap.size w1 [(u1.num, d.lo.num), (u1.den, d.lo.den)] := ow1.wide (by simp) (Nat.le_refl _)
  have B1 : Below w.heap.size w w1 := (unhide B3).trans (hb1.mono (by simp <;> omega))
  have y4 : w1.cell? ⟨w.heap.size, 4, none⟩ = some (.bool v.hi.num.g) := cell_later hb1 (by simp [go_sem])
  have y5 : w1.cell? ⟨w.heap.size, 5, none⟩ = some (.slice v.hi.num.a v.hi.num.n v.hi.num.c) := cell_later hb1 (by simp [go_sem])
  have y6 : w1.cell? ⟨w.heap.size, 6, none⟩ = some (.bool v.hi.den.g) := cell_later hb1 (by simp [go_sem])
  have y7 : w1.cell? ⟨w.heap.size, 7, none⟩ = some (.slice v.hi.den.a v.hi.den.n v.hi.den.c) := cell_later hb1 (by simp [go_sem])
  have q0 : w1.cell? ⟨w.heap.size + 1, 0, none⟩ = some (.bool false) := cell_later hb1 (by simp [go_sem])
  have q1 : w1.cell? ⟨w.heap.size + 1, 1, none⟩ = some (.slice none 0 0) := cell_later hb1 (by simp [go_sem])
  have q2 : w1.cell? ⟨w.heap.size + 1, 2, none⟩ = some (.bool false) := cell_later hb1 (by simp [go_sem])
  have q3 : w1.cell? ⟨w.heap.size + 1, 3, none⟩ = some (.slice none 0 0) := cell_later hb1 (by simp [go_sem])
  have q4 : w1.cell? ⟨w.heap.size + 1, 4, none⟩ = some (.bool false) := cell_later hb1 (by simp [go_sem])
  have q5 : w1.cell? ⟨w.heap.size + 1, 5, none⟩ = some (.slice none 0 0) := cell_later hb1 (by simp [go_sem])
  have q6 : w1.cell? ⟨w.heap.size + 1, 6, none⟩ = some (.bool false) := cell_later hb1 (by simp [go_sem])
  have q7 : w1.cell? ⟨w.heap.size + 1, 7, none⟩ = some (.slice none 0 0) := cell_later hb1 (by simp [go_sem])
  have r0 : w1.cell? ⟨w.heap.size + 1 + 1, 0, none⟩ = some (.bool false) := cell_later hb1 (by simp [go_sem])
  have r1 : w1.cell? ⟨w.heap.size + 1 + 1, 1, none⟩ = some (.slice none 0 0) := cell_later hb1 (by simp [go_sem])
  have r2 : w1.cell? ⟨w.heap.size + 1 + 1, 2, none⟩ = some (.bool false) := cell_later hb1 (by simp [go_sem])
  have r3 : w1.cell? ⟨w.heap.size + 1 + 1, 3, none⟩ = some (.slice none 0 0) := cell_later hb1 (by simp [go_sem])
  have r4 : w1.cell? ⟨w.heap.size + 1 + 1, 4, none⟩ = some (.bool false) := cell_later hb1 (by simp [go_sem])
  have r5 : w1.cell? ⟨w.heap.size + 1 + 1, 5, none⟩ = some (.slice none 0 0) := cell_later hb1 (by simp [go_sem])
  have r6 : w1.cell? ⟨w.heap.size + 1 + 1, 6, none⟩ = some (.bool false) := cell_later hb1 (by simp [go_sem])
  have r7 : w1.cell? ⟨w.heap.size + 1 + 1, 7, none⟩ = some (.slice none 0 0) := cell_later hb1 (by simp [go_sem])
  have f1 : ∀ o, w1.frozen? ⟨w.heap.size + 1, o, none⟩ = false := fun o => frozen_later hb1 (by simp) (by simp [go_sem])
  have f2 : ∀ o, w1.frozen? ⟨w.heap.size + 1 + 1, o, none⟩ = false := fun o => frozen_later hb1 (by simp) (by simp [go_sem])
  have O1 := hide (And.intro ow1' (And.intro ar1 hn1))
  have HB1 := hide B1
  clear ow1 ow1' ar1 hn1 hb1 B1
  go_wp2_with fail
  have B1' : Below w.heap.size w ((((w1.setCell ⟨w.heap.size + 1 + 1, 0, none⟩ (.bool u1.num.g)).setCell ⟨w.heap.size + 1 + 1, 1, none⟩ (.slice u1.num.a u1.num.n u1.num.c)).setCell ⟨w.heap.size + 1 + 1, 2, none⟩ (.bool u1.den.g)).setCell ⟨w.heap.size + 1 + 1, 3, none⟩ (.slice u1.den.a u1.den.n u1.den.c)) := (((((unhide HB1).setCell (by show w.heap.size ≤ w.heap.size + 1 + 1; omega) _).setCell (by show w.heap.size ≤ w.heap.size + 1 + 1; omega) _).setCell (by show w.heap.size ≤ w.heap.size + 1 + 1; omega) _).setCell (by show w.heap.size ≤ w.heap.size + 1 + 1; omega) _)
  refine (toQ_at v.hi d.hi _ ((unhide HX).Sr.later B1') h3 h4).mono ?_
  rintro e w2 ⟨u2, rfl, hb2, hn2, ow2, ar2⟩
  have hsz : ((((w1.setCell ⟨w.heap.size + 1 + 1, 0, none⟩ (.bool u1.num.g)).setCell ⟨w.heap.size + 1 + 1, 1, none⟩ (.slice u1.num.a u1.num.n u1.num.c)).setCell ⟨w.heap.size + 1 + 1, 2, none⟩ (.bool u1.den.g)).setCell ⟨w.heap.size + 1 + 1, 3, none⟩ (.slice u1.den.a u1.den.n u1.den.c)).heap.size = w1.heap.size := by simp [World.setCell]
  have ow2' : AllOwn w1.heap.size w2.heap.size w2 [(u2.num, d.hi.num), (u2.den, d.hi.den)] := ow2.wide (by rw [hsz]; exact Nat.le_refl _) (Nat.le_refl _)
  have bt : But (w.heap.size + 1 + 1) (w.heap.size + 3) w1 ((((w1.setCell ⟨w.heap.size + 1 + 1, 0, none⟩ (.bool u1.num.g)).setCell ⟨w.heap.size + 1 + 1, 1, none⟩ (.slice u1.num.a u1.num.n u1.num.c)).setCell ⟨w.heap.size + 1 + 1, 2, none⟩ (.bool u1.den.g)).setCell ⟨w.heap.size + 1 + 1, 3, none⟩ (.slice u1.den.a u1.den.n u1.den.c)) := (((((But.refl _ _ _).set (p := ⟨w.heap.size + 1 + 1, 0, none⟩) (Nat.le_refl _) (by show w.heap.size + 1 + 1 < w.heap.size + 3; omega) _).set (p := ⟨w.heap.size + 1 + 1, 1, none⟩) (Nat.le_refl _) (by show w.heap.size + 1 + 1 < w.heap.size + 3; omega) _).set (p := ⟨w.heap.size + 1 + 1, 2, none⟩) (Nat.le_refl _) (by show w.heap.size + 1 + 1 < w.heap.size + 3; omega) _).set (p := ⟨w.heap.size + 1 + 1, 3, none⟩) (Nat.le_refl _) (by show w.heap.size + 1 + 1 < w.heap.size + 3; omega) _)
  have ow1 : AllOwn (w.heap.size + 3) w1.heap.size w2 [(u1.num, d.lo.num), (u1.den, d.lo.den)] := ((unhide O1).1.but bt (.inr (Nat.le_refl _))).later hb2
  have ar1 : AllAr w2 [(u1.num, d.lo.num), (u1.den, d.lo.den)] := fun p hp => ⟨((unhide O1).2.1 p hp).sg, ⟨(ow1.sl p hp).sl, ((unhide O1).2.1 p hp).ar.len, ((unhide O1).2.1 p hp).ar.cap, ((unhide O1).2.1 p hp).ar.top, ((unhide O1).2.1 p hp).ar.addr⟩⟩
  have hs2 : w1.heap.size ≤ w2.heap.size := by have := hb2.size; rw [hsz] at this; exact this
  have s0 : w2.cell? ⟨w.heap.size + 1 + 1, 0, none⟩ = some (.bool u1.num.g) := cell_later hb2 (by simp [go_sem, r0, r1, r2, r3, r4, r5, r6, r7])
  have s1 : w2.cell? ⟨w.heap.size + 1 + 1, 1, none⟩ = some (.slice u1.num.a u1.num.n u1.num.c) := cell_later hb2 (by simp [go_sem, r0, r1, r2, r3, r4, r5, r6, r7])
  have s2 : w2.cell? ⟨w.heap.size + 1 + 1, 2, none⟩ = some (.bool u1.den.g) := cell_later hb2 (by simp [go_sem, r0, r1, r2, r3, r4, r5, r6, r7])
  have s3 : w2.cell? ⟨w.heap.size + 1 + 1, 3, none⟩ = some (.slice u1.den.a u1.den.n u1.den.c) := cell_later hb2 (by simp [go_sem, r0, r1, r2, r3, r4, r5, r6, r7])
  have s4 : w2.cell? ⟨w.heap.size + 1 + 1, 4, none⟩ = some (.bool false) := cell_later hb2 (by simp [go_sem, r4])
  have s5 : w2.cell? ⟨w.heap.size + 1 + 1, 5, none⟩ = some (.slice none 0 0) := cell_later hb2 (by simp [go_sem, r5])
  have s6 : w2.cell? ⟨w.heap.size + 1 + 1, 6, none⟩ = some (.bool false) := cell_later hb2 (by simp [go_sem, r6])
  have s7 : w2.cell? ⟨w.heap.size + 1 + 1, 7, none⟩ = some (.slice none 0 0) := cell_later hb2 (by simp [go_sem, r7])
  have t0 : w2.cell? ⟨w.heap.size + 1, 0, none⟩ = some (.bool false) := cell_later hb2 (by simp [go_sem, q0])
  have t1 : w2.cell? ⟨w.heap.size + 1, 1, none⟩ = some (.slice none 0 0) := cell_later hb2 (by simp [go_sem, q1])
  have t2 : w2.cell? ⟨w.heap.size + 1, 2, none⟩ = some (.bool false) := cell_later hb2 (by simp [go_sem, q2])
  have t3 : w2.cell? ⟨w.heap.size + 1, 3, none⟩ = some (.slice none 0 0) := cell_later hb2 (by simp [go_sem, q3])
  have t4 : w2.cell? ⟨w.heap.size + 1, 4, none⟩ = some (.bool false) := cell_later hb2 (by simp [go_sem, q4])
  have t5 : w2.cell? ⟨w.heap.size + 1, 5, none⟩ = some (.slice none 0 0) := cell_later hb2 (by simp [go_sem, q5])
  have t6 : w2.cell? ⟨w.heap.size + 1, 6, none⟩ = some (.bool false) := cell_later hb2 (by simp [go_sem, q6])
  have t7 : w2.cell? ⟨w.heap.size + 1, 7, none⟩ = some (.slice none 0 0) := cell_later hb2 (by simp [go_sem, q7])
  have f3 : ∀ o, w2.frozen? ⟨w.heap.size + 1, o, none⟩ = false := fun o => frozen_later hb2 (by rw [hsz]; omega) (by simp [go_sem, f1])
  have f4 : ∀ o, w2.frozen? ⟨w.heap.size + 1 + 1, o, none⟩ = false := fun o => frozen_later hb2 (by rw [hsz]; omega) (by simp [go_sem, f2])
  have HO := hide (And.intro (ow1.join ow2' hs1 hs2) (And.intro ar1 (And.intro ar2 (And.intro (unhide O1).2.2 hn2))))
  have HB2 := hide (below_on B1' hb2)
  clear ow1 ow2 ow2' ar1 ar2 hn2 hb2 bt B1' y4 y5 y6 y7 q0 r0 q1 r1 q2 r2 q3 r3 q4 r4 q5 r5 q6 r6 q7 r7 f1 f2 O1 HB1 hsz
  go_wp2
  have hlt : (w.heap.size ≤ w.heap.size + 1 + 1) ∧ (w.heap.size ≤ w.heap.size + 1) ∧ (w.heap.size + 1 + 1 < w.heap.size + 3) ∧ (w.heap.size + 1 < w.heap.size + 3) ∧ (w.heap.size + 1 ≤ w.heap.size + 1 + 1) := by omega
  have bt : But (w.heap.size + 1) (w.heap.size + 3) w2 ((((((((((((w2.setCell ⟨w.heap.size + 1 + 1, 4, none⟩ (.bool u2.num.g)).setCell ⟨w.heap.size + 1 + 1, 5, none⟩ (.slice u2.num.a u2.num.n u2.num.c)).setCell ⟨w.heap.size + 1 + 1, 6, none⟩ (.bool u2.den.g)).setCell ⟨w.heap.size + 1 + 1, 7, none⟩ (.slice u2.den.a u2.den.n u2.den.c)).setCell ⟨w.heap.size + 1, 0, none⟩ (.bool u1.num.g)).setCell ⟨w.heap.size + 1, 1, none⟩ (.slice u1.num.a u1.num.n u1.num.c)).setCell ⟨w.heap.size + 1, 2, none⟩ (.bool u1.den.g)).setCell ⟨w.heap.size + 1, 3, none⟩ (.slice u1.den.a u1.den.n u1.den.c)).setCell ⟨w.heap.size + 1, 4, none⟩ (.bool u2.num.g)).setCell ⟨w.heap.size + 1, 5, none⟩ (.slice u2.num.a u2.num.n u2.num.c)).setCell ⟨w.heap.size + 1, 6, none⟩ (.bool u2.den.g)).setCell ⟨w.heap.size + 1, 7, none⟩ (.slice u2.den.a u2.den.n u2.den.c)) := by
    refine ((((((((((((But.refl _ _ _).set (p := ⟨w.heap.size + 1 + 1, 4, none⟩) ?_ ?_ _).set (p := ⟨w.heap.size + 1 + 1, 5, none⟩) ?_ ?_ _).set (p := ⟨w.heap.size + 1 + 1, 6, none⟩) ?_ ?_ _).set (p := ⟨w.heap.size + 1 + 1, 7, none⟩) ?_ ?_ _).set (p := ⟨w.heap.size + 1, 0, none⟩) ?_ ?_ _).set (p := ⟨w.heap.size + 1, 1, none⟩) ?_ ?_ _).set (p := ⟨w.heap.size + 1, 2, none⟩) ?_ ?_ _).set (p := ⟨w.heap.size + 1, 3, none⟩) ?_ ?_ _).set (p := ⟨w.heap.size + 1, 4, none⟩) ?_ ?_ _).set (p := ⟨w.heap.size + 1, 5, none⟩) ?_ ?_ _).set (p := ⟨w.heap.size + 1, 6, none⟩) ?_ ?_ _).set (p := ⟨w.heap.size + 1, 7, none⟩) ?_ ?_ _ <;> first | exact hlt.1 | exact hlt.2.1 | exact hlt.2.2.1 | exact hlt.2.2.2.1 | exact hlt.2.2.2.2 | exact Nat.le_refl _
  refine bodyPost_ret (v := .agg #[.bool u1.num.g, .slice u1.num.a u1.num.n u1.num.c, .bool u1.den.g, .slice u1.den.a u1.den.n u1.den.c, .bool u2.num.g, .slice u2.num.a u2.num.n u2.num.c, .bool u2.den.g, .slice u2.den.a u2.den.n u2.den.c]) (by simp [results, Try.results36, go_sem, s0, t0, s1, t1, s2, t2, s3, t3, s4, t4, s5, t5, s6, t6, s7, t7]) rfl ⟨⟨u1, u2⟩, rfl, bt.below (unhide HB2) (Nat.le_succ _) (unhide HB2).size, ?_, ?_, ?_⟩
  · have q := (unhide HO).2.2.2
    exact ⟨q.1.1, q.1.2, q.2.1, q.2.2⟩
  · exact ((unhide HO).1.but bt (.inr (Nat.le_refl _))).wide (by omega) bt.size
  · have oo := ((unhide HO).1.but bt (.inr (Nat.le_refl _))).sl
    have aa := (unhide HO).2.1.append (unhide HO).2.2.1
    exact fun p hp => ⟨(aa p hp).sg, ⟨(oo p hp).sl, (aa p hp).ar.len, (aa p hp).ar.cap, (aa p hp).ar.top, (aa p hp).ar.addr⟩⟩

set_option maxHeartbeats 1000000 in
theorem eqS_at (v v' : SV) (d : SD) (w : World) (h : AllSl w [(v.lo.num, d.lo.num), (v.lo.den, d.lo.den), (v.hi.num, d.hi.num), (v.hi.den, d.hi.den)]) (h' : AllSl w [(v'.lo.num, d.lo.num), (v'.lo.den, d.lo.den), (v'.hi.num, d.hi.num), (v'.hi.den, d.hi.den)]) (hm0 : v.lo.num.n ≤ maxLen) (hm1 : v.lo.den.n ≤ maxLen) (hm2 : v.hi.num.n ≤ maxLen) (hm3 : v.hi.den.n ≤ maxLen) :
    Calls Try.prog 38 #[.agg #[.bool v.lo.num.g, .slice v.lo.num.a v.lo.num.n v.lo.num.c, .bool v.lo.den.g, .slice v.lo.den.a v.lo.den.n v.lo.den.c, .bool v.hi.num.g, .slice v.hi.num.a v.hi.num.n v.hi.num.c, .bool v.hi.den.g, .slice v.hi.den.a v.hi.den.n v.hi.den.c], .agg #[.bool v'.lo.num.g, .slice v'.lo.num.a v'.lo.num.n v'.lo.num.c, .bool v'.lo.den.g, .slice v'.lo.den.a v'.lo.den.n v'.lo.den.c, .bool v'.hi.num.g, .slice v'.hi.num.a v'.hi.num.n v'.hi.num.c, .bool v'.hi.den.g, .slice v'.hi.den.a v'.hi.den.n v'.hi.den.c]] w fun e w' => e = .returned (.bool true) ∧ Below w.heap.size w w' := by
  have HX := hide h
  have HX' := hide h'
  clear h h'
  have B2 := hide (below_two w (.cells #[.bool v.lo.num.g, .slice v.lo.num.a v.lo.num.n v.lo.num.c, .bool v.lo.den.g, .slice v.lo.den.a v.lo.den.n v.lo.den.c, .bool v.hi.num.g, .slice v.hi.num.a v.hi.num.n v.hi.num.c, .bool v.hi.den.g, .slice v.hi.den.a v.hi.den.n v.hi.den.c] 41) (.cells #[.bool v'.lo.num.g, .slice v'.lo.num.a v'.lo.num.n v'.lo.num.c, .bool v'.lo.den.g, .slice v'.lo.den.a v'.lo.den.n v'.lo.den.c, .bool v'.hi.num.g, .slice v'.hi.num.a v'.hi.num.n v'.hi.num.c, .bool v'.hi.den.g, .slice v'.hi.den.a v'.hi.den.n v'.hi.den.c] 41))
  go_enter Try.func38, Try.ntmps38
  go_wp2_with fail
  refine (eqQ_at v.lo v'.lo d.lo _ ((unhide HX).Sl.later (unhide B2)) ((unhide HX').Sl.later (unhide B2)) hm0 hm1).mono ?_
  rintro e w1 ⟨rfl, hb1⟩
  have x4 : w1.cell? ⟨w.heap.size, 4, none⟩ = some (.bool v.hi.num.g) := cell_later hb1 (by simp [go_sem])
  have x5 : w1.cell? ⟨w.heap.size, 5, none⟩ = some (.slice v.hi.num.a v.hi.num.n v.hi.num.c) := cell_later hb1 (by simp [go_sem])
  have x6 : w1.cell? ⟨w.heap.size, 6, none⟩ = some (.bool v.hi.den.g) := cell_later hb1 (by simp [go_sem])
  have x7 : w1.cell? ⟨w.heap.size, 7, none⟩ = some (.slice v.hi.den.a v.hi.den.n v.hi.den.c) := cell_later hb1 (by simp [go_sem])
  have y4 : w1.cell? ⟨w.heap.size + 1, 4, none⟩ = some (.bool v'.hi.num.g) := cell_later hb1 (by simp [go_sem])
  have y5 : w1.cell? ⟨w.heap.size + 1, 5, none⟩ = some (.slice v'.hi.num.a v'.hi.num.n v'.hi.num.c) := cell_later hb1 (by simp [go_sem])
  have y6 : w1.cell? ⟨w.heap.size + 1, 6, none⟩ = some (.bool v'.hi.den.g) := cell_later hb1 (by simp [go_sem])
  have y7 : w1.cell? ⟨w.heap.size + 1, 7, none⟩ = some (.slice v'.hi.den.a v'.hi.den.n v'.hi.den.c) := cell_later hb1 (by simp [go_sem])
  have HB := hide (below_two' hb1)
  clear hb1
  go_wp2_with fail
  refine (eqQ_at v.hi v'.hi d.hi _ ((unhide HX).Sr.later (unhide HB)) ((unhide HX').Sr.later (unhide HB)) hm2 hm3).mono ?_
  rintro e w2 ⟨rfl, hb2⟩
  have HB2 := hide (below_on (unhide HB) hb2)
  clear hb2
  go_wp2
  go_ret
  exact ⟨rfl, unhide HB2⟩

theorem re_assocS {lo hi : Nat} {w : World} {pre post xs ys : List (BV × BD)} (h : AllOwn lo hi w (pre ++ (xs ++ (ys ++ post)))) : AllOwn lo hi w ((pre ++ xs) ++ (ys ++ post)) := by rw [List.append_assoc]; exact h
set_option maxHeartbeats 1000000 in
theorem markS_at (v : SV) (d : SD) (pre post : List (BV × BD)) (k : Int) (lo hi : Nat) (w : World) (h : AllOwn lo hi w (pre ++ (v.lo.num, d.lo.num) :: (v.lo.den, d.lo.den) :: (v.hi.num, d.hi.num) :: (v.hi.den, d.hi.den) :: post)) (h1 : v.lo.num.n ≤ 1048576) (h2 : v.lo.den.n ≤ 1048576) (h3 : v.hi.num.n ≤ 1048576) (h4 : v.hi.den.n ≤ 1048576) (hh : hi ≤ w.heap.size) (k0 : 0 ≤ k) (k1 : k + (v.lo.num.n : Int) + (v.lo.den.n : Int) + (v.hi.num.n : Int) + (v.hi.den.n : Int) ≤ 4000000) :
    Calls Try.prog 39 #[.agg #[.bool v.lo.num.g, .slice v.lo.num.a v.lo.num.n v.lo.num.c, .bool v.lo.den.g, .slice v.lo.den.a v.lo.den.n v.lo.den.c, .bool v.hi.num.g, .slice v.hi.num.a v.hi.num.n v.hi.num.c, .bool v.hi.den.g, .slice v.hi.den.a v.hi.den.n v.hi.den.c], .int .i64 k] w fun e w' => e = .returned (.int .i64 (k + (v.lo.num.n : Int) + (v.lo.den.n : Int) + (v.hi.num.n : Int) + (v.hi.den.n : Int))) ∧ But lo hi w w' ∧ AllOwn lo hi w' (pre ++ (v.lo.num, ⟨d.lo.num.g, marks (k) v.lo.num.n⟩) :: (v.lo.den, ⟨d.lo.den.g, marks (k + v.lo.num.n) v.lo.den.n⟩) :: (v.hi.num, ⟨d.hi.num.g, marks (k + v.lo.num.n + v.lo.den.n) v.hi.num.n⟩) :: (v.hi.den, ⟨d.hi.den.g, marks (k + v.lo.num.n + v.lo.den.n + v.hi.num.n) v.hi.den.n⟩) :: post) := by
  have HO := hide h
  clear h
  have HB := hide (show ∀ o, Below w.heap.size w (w.alloc o) from fun o => (Below.refl _ _).alloc (Nat.le_refl _) _)
  have y : (w.alloc (.cells #[.bool v.lo.num.g, .slice v.lo.num.a v.lo.num.n v.lo.num.c, .bool v.lo.den.g, .slice v.lo.den.a v.lo.den.n v.lo.den.c, .bool v.hi.num.g, .slice v.hi.num.a v.hi.num.n v.hi.num.c, .bool v.hi.den.g, .slice v.hi.den.a v.hi.den.n v.hi.den.c] 41)).cell? ⟨w.heap.size, 4, none⟩ = some (.bool v.hi.num.g) ∧ (w.alloc (.cells #[.bool v.lo.num.g, .slice v.lo.num.a v.lo.num.n v.lo.num.c, .bool v.lo.den.g, .slice v.lo.den.a v.lo.den.n v.lo.den.c, .bool v.hi.num.g, .slice v.hi.num.a v.hi.num.n v.hi.num.c, .bool v.hi.den.g, .slice v.hi.den.a v.hi.den.n v.hi.den.c] 41)).cell? ⟨w.heap.size, 5, none⟩ = some (.slice v.hi.num.a v.hi.num.n v.hi.num.c) ∧ (w.alloc (.cells #[.bool v.lo.num.g, .slice v.lo.num.a v.lo.num.n v.lo.num.c, .bool v.lo.den.g, .slice v.lo.den.a v.lo.den.n v.lo.den.c, .bool v.hi.num.g, .slice v.hi.num.a v.hi.num.n v.hi.num.c, .bool v.hi.den.g, .slice v.hi.den.a v.hi.den.n v.hi.den.c] 41)).cell? ⟨w.heap.size, 6, none⟩ = some (.bool v.hi.den.g) ∧ (w.alloc (.cells #[.bool v.lo.num.g, .slice v.lo.num.a v.lo.num.n v.lo.num.c, .bool v.lo.den.g, .slice v.lo.den.a v.lo.den.n v.lo.den.c, .bool v.hi.num.g, .slice v.hi.num.a v.hi.num.n v.hi.num.c, .bool v.hi.den.g, .slice v.hi.den.a v.hi.den.n v.hi.den.c] 41)).cell? ⟨w.heap.size, 7, none⟩ = some (.slice v.hi.den.a v.hi.den.n v.hi.den.c) := by refine ⟨?_, ?_, ?_, ?_⟩ <;> simp [go_sem]
  go_enter Try.func39, Try.ntmps39
  go_wp2_with fail
  refine (markQ_at v.lo d.lo pre ((v.hi.num, d.hi.num) :: (v.hi.den, d.hi.den) :: post) k lo hi _ ((unhide HO).later (unhide HB _)) h1 h2 (by simp; omega) k0 (by omega)).mono ?_
  rintro e w1 ⟨rfl, hb, ho⟩
  have HF := hide (And.intro ((But.of_below (unhide HB _)).trans hb) ho)
  obtain ⟨y4, y5, y6, y7⟩ := y
  have hz1 : hi ≤ w1.heap.size := by have := hb.size; simp at this; omega
  replace y4 := hb.cell y4 (.inr hh)
  replace y5 := hb.cell y5 (.inr hh)
  replace y6 := hb.cell y6 (.inr hh)
  replace y7 := hb.cell y7 (.inr hh)
  clear hb ho
  go_wp2_with fail
  refine (markQ_at v.hi d.hi (pre ++ [(v.lo.num, ⟨d.lo.num.g, marks (k) v.lo.num.n⟩), (v.lo.den, ⟨d.lo.den.g, marks (k + v.lo.num.n) v.lo.den.n⟩)]) post _ lo hi w1 (re_assocS (xs := [(v.lo.num, ⟨d.lo.num.g, marks (k) v.lo.num.n⟩), (v.lo.den, ⟨d.lo.den.g, marks (k + v.lo.num.n) v.lo.den.n⟩)]) (ys := [(v.hi.num, d.hi.num), (v.hi.den, d.hi.den)]) (unhide HF).2) h3 h4 hz1 (by omega) (by omega)).mono ?_
  rintro e w2 ⟨rfl, hb2, ho2⟩
  have HF2 := hide (And.intro ((unhide HF).1.trans hb2) ho2)
  clear hb2 ho2
  go_wp2
  go_ret
  refine ⟨rfl, (unhide HF2).1, ?_⟩
  have := (unhide HF2).2
  rw [List.append_assoc] at this
  exact this

set_option maxHeartbeats 1000000 in
theorem heldS_at (v : SV) (k : Int) (w : World) (s0 : Sl w v.lo.num.a (marks (k) v.lo.num.n)) (s1 : Sl w v.lo.den.a (marks (k + v.lo.num.n) v.lo.den.n)) (s2 : Sl w v.hi.num.a (marks (k + v.lo.num.n + v.lo.den.n) v.hi.num.n)) (s3 : Sl w v.hi.den.a (marks (k + v.lo.num.n + v.lo.den.n + v.hi.num.n) v.hi.den.n)) (h1 : v.lo.num.n ≤ 1048576) (h2 : v.lo.den.n ≤ 1048576) (h3 : v.hi.num.n ≤ 1048576) (h4 : v.hi.den.n ≤ 1048576) (k0 : 0 ≤ k) (k1 : k + (v.lo.num.n : Int) + (v.lo.den.n : Int) + (v.hi.num.n : Int) + (v.hi.den.n : Int) ≤ 4000000) :
    Calls Try.prog 40 #[.agg #[.bool v.lo.num.g, .slice v.lo.num.a v.lo.num.n v.lo.num.c, .bool v.lo.den.g, .slice v.lo.den.a v.lo.den.n v.lo.den.c, .bool v.hi.num.g, .slice v.hi.num.a v.hi.num.n v.hi.num.c, .bool v.hi.den.g, .slice v.hi.den.a v.hi.den.n v.hi.den.c], .int .i64 k] w fun e w' => e = .returned (.int .i64 (k + (v.lo.num.n : Int) + (v.lo.den.n : Int) + (v.hi.num.n : Int) + (v.hi.den.n : Int))) ∧ Below w.heap.size w w' := by
  have HS := hide (And.intro s0 (And.intro s1 (And.intro s2 s3)))
  clear s0 s1 s2 s3
  have hk1 : ¬ (k + (v.lo.num.n : Int) + (v.lo.den.n : Int) < 0) := by omega
  have hk2 : ¬ (k + (v.lo.num.n : Int) + (v.lo.den.n : Int) + (v.hi.num.n : Int) + (v.hi.den.n : Int) < 0) := by omega
  have HB := hide (show ∀ o, Below w.heap.size w (w.alloc o) from fun o => (Below.refl _ _).alloc (Nat.le_refl _) _)
  go_enter Try.func40, Try.ntmps40
  go_wp2_with fail
  refine (heldQ_at v.lo k _ ((unhide HS).1.later (Nat.le_refl _) (unhide HB _)) ((unhide HS).2.1.later (Nat.le_refl _) (unhide HB _)) h1 h2 k0 (by omega)).mono ?_
  rintro e w1 ⟨rfl, hb1⟩
  have y4 : w1.cell? ⟨w.heap.size, 4, none⟩ = some (.bool v.hi.num.g) := cell_later hb1 (by simp [go_sem])
  have y5 : w1.cell? ⟨w.heap.size, 5, none⟩ = some (.slice v.hi.num.a v.hi.num.n v.hi.num.c) := cell_later hb1 (by simp [go_sem])
  have y6 : w1.cell? ⟨w.heap.size, 6, none⟩ = some (.bool v.hi.den.g) := cell_later hb1 (by simp [go_sem])
  have y7 : w1.cell? ⟨w.heap.size, 7, none⟩ = some (.slice v.hi.den.a v.hi.den.n v.hi.den.c) := cell_later hb1 (by simp [go_sem])
  have HB1 := hide (ba hb1)
  clear hb1
  go_wp2_with fail
  refine (heldQ_at v.hi _ _ ((unhide HS).2.2.1.later (Nat.le_refl _) (unhide HB1)) ((unhide HS).2.2.2.later (Nat.le_refl _) (unhide HB1)) h3 h4 (by omega) (by omega)).mono ?_
  rintro e w2 ⟨rfl, hb2⟩
  have HB2 := hide (below_on (unhide HB1) hb2)
  clear hb2
  go_wp2
  go_ret
  exact ⟨rfl, unhide HB2⟩
end Go.Proofs.Ytlmeokeanihhoaa
namespace Go.Proofs.Ytlmeokeanihhoaa
open Go.RowKit
set_option linter.unusedVariables false
set_option maxRecDepth 100000
set_option linter.unusedSimpArgs false

/-- -1, 0 or 1. -/
def cmpZ (A B : Int) : Int := if A < B then -1 else if B < A then 1 else 0
theorem cmpTop_range (xs ys : List Int) (k : Nat) : cmpTop xs ys k = -1 ∨ cmpTop xs ys k = 0 ∨ cmpTop xs ys k = 1 := by
  induction k with
  | zero => right; left; rfl
  | succ k ih =>
    unfold cmpTop
    split
    · left; rfl
    · split
      · right; right; rfl
      · exact ih
theorem cmpL_range (xs ys : List Int) : cmpL xs ys = -1 ∨ cmpL xs ys = 0 ∨ cmpL xs ys = 1 := by
  unfold cmpL
  split
  · left; rfl
  · split
    · right; right; rfl
    · exact cmpTop_range _ _ _
theorem cmpB_val {A B : Int} {ts us : List Int} (h : Nm ts A.natAbs) (k : Nm us B.natAbs) : cmpB (decide (A < 0)) ts (decide (B < 0)) us = cmpZ A B := by
  have h1 := cmpL_val h.ok k.ok h.tr k.tr
  have h2 := cmpL_val k.ok h.ok k.tr h.tr
  have r1 := cmpL_range ts us
  have r2 := cmpL_range us ts
  rw [h.v, k.v] at h1 h2
  unfold cmpB cmpZ
  by_cases a : A < 0 <;> by_cases b : B < 0
  · rw [decide_eq_true a, decide_eq_true b, if_pos rfl, if_pos rfl]
    split
    · omega
    · split <;> omega
  · rw [decide_eq_true a, decide_eq_false b, if_neg (by simp), if_pos rfl, if_pos (by omega)]
  · rw [decide_eq_false a, decide_eq_true b, if_neg (by simp), if_neg (by simp), if_neg (by omega), if_pos (by omega)]
  · rw [decide_eq_false a, decide_eq_false b, if_pos rfl, if_neg (by simp)]
    split
    · omega
    · split <;> omega
theorem cmpI_v (b b' : BV) (V V' : Int) (w : World) (h : IsB w b V) (h' : IsB w b' V') :
    Calls Try.prog 200 #[.agg #[.bool b.g, .slice b.a b.n b.c], .agg #[.bool b'.g, .slice b'.a b'.n b'.c]] w fun e w' => e = .returned (.int .i64 (cmpZ V V')) ∧ Below w.heap.size w w' := by
  obtain ⟨xs, h1, n1⟩ := h
  obtain ⟨ys, h2, n2⟩ := h'
  refine (cmpBI_any b.g b'.g b.a b'.a b.n b'.n b.c b'.c xs ys w h1.ar.sl h2.ar.sl h1.ar.len h2.ar.len (Nat.le_trans h1.ar.cap h1.ar.top) (Nat.le_trans h2.ar.cap h2.ar.top)).mono ?_
  rintro e w' ⟨rfl, hb⟩
  exact ⟨by rw [h1.sg, h2.sg, cmpB_val n1 n2], hb⟩
theorem cmpS_v (b b' : BV) (V V' : Int) (w : World) (h : IsB w b V) (h' : IsB w b' V') :
    Calls Try.prog 152 #[.agg #[.bool b.g, .slice b.a b.n b.c], .agg #[.bool b'.g, .slice b'.a b'.n b'.c]] w fun e w' => e = .returned (.int .i64 (cmpZ V V')) ∧ Below w.heap.size w w' := by
  obtain ⟨xs, h1, n1⟩ := h
  obtain ⟨ys, h2, n2⟩ := h'
  refine (cmpBS_any b.g b'.g b.a b'.a b.n b'.n b.c b'.c xs ys w h1.ar.sl h2.ar.sl h1.ar.len h2.ar.len (Nat.le_trans h1.ar.cap h1.ar.top) (Nat.le_trans h2.ar.cap h2.ar.top)).mono ?_
  rintro e w' ⟨rfl, hb⟩
  exact ⟨by rw [h1.sg, h2.sg, cmpB_val n1 n2], hb⟩

set_option maxHeartbeats 4000000 in
theorem cmpQI (q q' : QV) (N D N' D' : Int) (w : World) (h : IsQ w q N D) (h' : IsQ w q' N' D') (k1 : Bd N 200000) (k2 : Bd D 200000) (k3 : Bd N' 200000) (k4 : Bd D' 200000) :
    Calls Try.prog 158 #[.agg #[.bool q.num.g, .slice q.num.a q.num.n q.num.c, .bool q.den.g, .slice q.den.a q.den.n q.den.c], .agg #[.bool q'.num.g, .slice q'.num.a q'.num.n q'.num.c, .bool q'.den.g, .slice q'.den.a q'.den.n q'.den.c]] w fun e w' => e = .returned (.int .i64 (cmpZ (N * D') (N' * D))) ∧ Below w.heap.size w w' := by
  have H1 := hide h
  have H2 := hide h'
  have K1 := hide (k1.mono (show 200000 ≤ 400000 by omega))
  have K2 := hide (k2.mono (show 200000 ≤ 400000 by omega))
  have K3 := hide (k3.mono (show 200000 ≤ 400000 by omega))
  have K4 := hide (k4.mono (show 200000 ≤ 400000 by omega))
  clear h h' k1 k2 k3 k4
  go_enter Try.func158, Try.ntmps158
  go_upto_region 1 with fail
  have hb : Below w.heap.size w ((w.alloc (.cells #[.bool q.num.g, .slice q.num.a q.num.n q.num.c, .bool q.den.g, .slice q.den.a q.den.n q.den.c] 30)).alloc (.cells #[.bool q'.num.g, .slice q'.num.a q'.num.n q'.num.c, .bool q'.den.g, .slice q'.den.a q'.den.n q'.den.c] 30)) := (((Below.refl _ _).alloc (by simp) _).alloc (by simp) _)
  have k0_0 : ((w.alloc (.cells #[.bool q.num.g, .slice q.num.a q.num.n q.num.c, .bool q.den.g, .slice q.den.a q.den.n q.den.c] 30)).alloc (.cells #[.bool q'.num.g, .slice q'.num.a q'.num.n q'.num.c, .bool q'.den.g, .slice q'.den.a q'.den.n q'.den.c] 30)).cell? ⟨w.heap.size, 0, none⟩ = some (.bool q.num.g) := by simp [go_sem]
  have k0_1 : ((w.alloc (.cells #[.bool q.num.g, .slice q.num.a q.num.n q.num.c, .bool q.den.g, .slice q.den.a q.den.n q.den.c] 30)).alloc (.cells #[.bool q'.num.g, .slice q'.num.a q'.num.n q'.num.c, .bool q'.den.g, .slice q'.den.a q'.den.n q'.den.c] 30)).cell? ⟨w.heap.size, 1, none⟩ = some (.slice q.num.a q.num.n q.num.c) := by simp [go_sem]
  have k0_2 : ((w.alloc (.cells #[.bool q.num.g, .slice q.num.a q.num.n q.num.c, .bool q.den.g, .slice q.den.a q.den.n q.den.c] 30)).alloc (.cells #[.bool q'.num.g, .slice q'.num.a q'.num.n q'.num.c, .bool q'.den.g, .slice q'.den.a q'.den.n q'.den.c] 30)).cell? ⟨w.heap.size, 2, none⟩ = some (.bool q.den.g) := by simp [go_sem]
  have k0_3 : ((w.alloc (.cells #[.bool q.num.g, .slice q.num.a q.num.n q.num.c, .bool q.den.g, .slice q.den.a q.den.n q.den.c] 30)).alloc (.cells #[.bool q'.num.g, .slice q'.num.a q'.num.n q'.num.c, .bool q'.den.g, .slice q'.den.a q'.den.n q'.den.c] 30)).cell? ⟨w.heap.size, 3, none⟩ = some (.slice q.den.a q.den.n q.den.c) := by simp [go_sem]
  have k1_0 : ((w.alloc (.cells #[.bool q.num.g, .slice q.num.a q.num.n q.num.c, .bool q.den.g, .slice q.den.a q.den.n q.den.c] 30)).alloc (.cells #[.bool q'.num.g, .slice q'.num.a q'.num.n q'.num.c, .bool q'.den.g, .slice q'.den.a q'.den.n q'.den.c] 30)).cell? ⟨w.heap.size + 1, 0, none⟩ = some (.bool q'.num.g) := by simp [go_sem]
  have k1_1 : ((w.alloc (.cells #[.bool q.num.g, .slice q.num.a q.num.n q.num.c, .bool q.den.g, .slice q.den.a q.den.n q.den.c] 30)).alloc (.cells #[.bool q'.num.g, .slice q'.num.a q'.num.n q'.num.c, .bool q'.den.g, .slice q'.den.a q'.den.n q'.den.c] 30)).cell? ⟨w.heap.size + 1, 1, none⟩ = some (.slice q'.num.a q'.num.n q'.num.c) := by simp [go_sem]
  have k1_2 : ((w.alloc (.cells #[.bool q.num.g, .slice q.num.a q.num.n q.num.c, .bool q.den.g, .slice q.den.a q.den.n q.den.c] 30)).alloc (.cells #[.bool q'.num.g, .slice q'.num.a q'.num.n q'.num.c, .bool q'.den.g, .slice q'.den.a q'.den.n q'.den.c] 30)).cell? ⟨w.heap.size + 1, 2, none⟩ = some (.bool q'.den.g) := by simp [go_sem]
  have k1_3 : ((w.alloc (.cells #[.bool q.num.g, .slice q.num.a q.num.n q.num.c, .bool q.den.g, .slice q.den.a q.den.n q.den.c] 30)).alloc (.cells #[.bool q'.num.g, .slice q'.num.a q'.num.n q'.num.c, .bool q'.den.g, .slice q'.den.a q'.den.n q'.den.c] 30)).cell? ⟨w.heap.size + 1, 3, none⟩ = some (.slice q'.den.a q'.den.n q'.den.c) := by simp [go_sem]
  have Q1 := hide ((unhide H1).later hb)
  have Q2 := hide ((unhide H2).later hb)
  have szw0 : w.heap.size + 2 ≤ ((w.alloc (.cells #[.bool q.num.g, .slice q.num.a q.num.n q.num.c, .bool q.den.g, .slice q.den.a q.den.n q.den.c] 30)).alloc (.cells #[.bool q'.num.g, .slice q'.num.a q'.num.n q'.num.c, .bool q'.den.g, .slice q'.den.a q'.den.n q'.den.c] 30)).heap.size := by simp
  have HB := hide hb
  clear hb
  generalize ((w.alloc (.cells #[.bool q.num.g, .slice q.num.a q.num.n q.num.c, .bool q.den.g, .slice q.den.a q.den.n q.den.c] 30)).alloc (.cells #[.bool q'.num.g, .slice q'.num.a q'.num.n q'.num.c, .bool q'.den.g, .slice q'.den.a q'.den.n q'.den.c] 30)) = w0 at *
  go_region_held3 (fun w' => w'.cell? ⟨w.heap.size, 0, none⟩ = some (.bool q.num.g) ∧ w'.cell? ⟨w.heap.size, 1, none⟩ = some (.slice q.num.a q.num.n q.num.c) ∧ w'.cell? ⟨w.heap.size, 2, none⟩ = some (.bool q.den.g) ∧ w'.cell? ⟨w.heap.size, 3, none⟩ = some (.slice q.den.a q.den.n q.den.c) ∧ w'.cell? ⟨w.heap.size + 1, 0, none⟩ = some (.bool q'.num.g) ∧ w'.cell? ⟨w.heap.size + 1, 1, none⟩ = some (.slice q'.num.a q'.num.n q'.num.c) ∧ w'.cell? ⟨w.heap.size + 1, 2, none⟩ = some (.bool q'.den.g) ∧ w'.cell? ⟨w.heap.size + 1, 3, none⟩ = some (.slice q'.den.a q'.den.n q'.den.c)) (with_reducible (first | exact ⟨k0_0, k0_1, k0_2, k0_3, k1_0, k1_1, k1_2, k1_3⟩ | exact ⟨cd_other k0_0, cd_other k0_1, cd_other k0_2, cd_other k0_3, cd_other k1_0, cd_other k1_1, cd_other k1_2, cd_other k1_3⟩ | fail))
    (first
    | (go_at_call_of 147 (Value.agg #[Value.bool q.num.g, Value.slice q.num.a q.num.n q.num.c]); refine (mulI_v q.num q'.den N D' _ ?_ ?_ (unhide K1) (unhide K4)).mono ?_; exact (unhide Q1).1.later (Below.refl _ _).drew; exact (unhide Q2).2.later (Below.refl _ _).drew; rintro e w1 ⟨x1, lx1, rfl, hb, ox1, ax1, nx1⟩; have hbx : Below w0.heap.size w0 w1 := below_of_drew hb; have szw1 := hbx.size; replace k0_0 := cell_later hbx k0_0; replace k0_1 := cell_later hbx k0_1; replace k0_2 := cell_later hbx k0_2; replace k0_3 := cell_later hbx k0_3; replace k1_0 := cell_later hbx k1_0; replace k1_1 := cell_later hbx k1_1; replace k1_2 := cell_later hbx k1_2; replace k1_3 := cell_later hbx k1_3; replace Q1 := hide ((unhide Q1).later hbx); replace Q2 := hide ((unhide Q2).later hbx); have Px1 := hide (outN_ow ox1 ax1 nx1); have HBr := hide hbx; clear hbx hb ox1 ax1 nx1)
    | (go_at_call_of 147 (Value.agg #[Value.bool q'.num.g, Value.slice q'.num.a q'.num.n q'.num.c]); refine (mulI_v q'.num q.den N' D _ ?_ ?_ (unhide K3) (unhide K2)).mono ?_; exact (unhide Q2).1.later (Below.refl _ _); exact (unhide Q1).2.later (Below.refl _ _); rintro e w2 ⟨x2, lx2, rfl, hb, ox2, ax2, nx2⟩; have hbx : Below w1.heap.size w1 w2 := hb; have szw2 := hbx.size; replace k0_0 := cell_later hbx k0_0; replace k0_1 := cell_later hbx k0_1; replace k0_2 := cell_later hbx k0_2; replace k0_3 := cell_later hbx k0_3; replace k1_0 := cell_later hbx k1_0; replace k1_1 := cell_later hbx k1_1; replace k1_2 := cell_later hbx k1_2; replace k1_3 := cell_later hbx k1_3; replace Q1 := hide ((unhide Q1).later hbx); replace Q2 := hide ((unhide Q2).later hbx); replace Px1 := hide ((unhide Px1).later hbx); have Px2 := hide (outN_ow ox2 ax2 nx2); have HBr := hide (below_on (unhide HBr) hbx); clear hbx hb ox2 ax2 nx2)
    | (go_at_call 200; refine (cmpI_v x1 x2 (N * D') (N' * D) _ ?_ ?_).mono ?_; exact (unhide Px1).is.later (Below.refl _ _); exact (unhide Px2).is.later (Below.refl _ _); rintro e w3 ⟨rfl, hb⟩; have hbx : Below w2.heap.size w2 w3 := hb; have szw3 := hbx.size; replace k0_0 := cell_later hbx k0_0; replace k0_1 := cell_later hbx k0_1; replace k0_2 := cell_later hbx k0_2; replace k0_3 := cell_later hbx k0_3; replace k1_0 := cell_later hbx k1_0; replace k1_1 := cell_later hbx k1_1; replace k1_2 := cell_later hbx k1_2; replace k1_3 := cell_later hbx k1_3; replace Q1 := hide ((unhide Q1).later hbx); replace Q2 := hide ((unhide Q2).later hbx); replace Px1 := hide ((unhide Px1).later hbx); replace Px2 := hide ((unhide Px2).later hbx); have HBr := hide (below_on (unhide HBr) hbx); clear hbx hb))
  replace HB := hide (below_on (unhide HB) (unhide HBr))
  clear HBr
  go_wp2
  go_ret
  exact ⟨rfl, unhide HB⟩

set_option maxHeartbeats 4000000 in
theorem cmpQS (q q' : QV) (N D N' D' : Int) (w : World) (h : IsQ w q N D) (h' : IsQ w q' N' D') (k1 : Bd N 200000) (k2 : Bd D 200000) (k3 : Bd N' 200000) (k4 : Bd D' 200000) :
    Calls Try.prog 92 #[.agg #[.bool q.num.g, .slice q.num.a q.num.n q.num.c, .bool q.den.g, .slice q.den.a q.den.n q.den.c], .agg #[.bool q'.num.g, .slice q'.num.a q'.num.n q'.num.c, .bool q'.den.g, .slice q'.den.a q'.den.n q'.den.c]] w fun e w' => e = .returned (.int .i64 (cmpZ (N * D') (N' * D))) ∧ Below w.heap.size w w' := by
  have H1 := hide h
  have H2 := hide h'
  have K1 := hide (k1.mono (show 200000 ≤ 400000 by omega))
  have K2 := hide (k2.mono (show 200000 ≤ 400000 by omega))
  have K3 := hide (k3.mono (show 200000 ≤ 400000 by omega))
  have K4 := hide (k4.mono (show 200000 ≤ 400000 by omega))
  clear h h' k1 k2 k3 k4
  go_enter Try.func92, Try.ntmps92
  go_upto_region 1 with fail
  have hb : Below w.heap.size w ((w.alloc (.cells #[.bool q.num.g, .slice q.num.a q.num.n q.num.c, .bool q.den.g, .slice q.den.a q.den.n q.den.c] 30)).alloc (.cells #[.bool q'.num.g, .slice q'.num.a q'.num.n q'.num.c, .bool q'.den.g, .slice q'.den.a q'.den.n q'.den.c] 30)) := (((Below.refl _ _).alloc (by simp) _).alloc (by simp) _)
  have k0_0 : ((w.alloc (.cells #[.bool q.num.g, .slice q.num.a q.num.n q.num.c, .bool q.den.g, .slice q.den.a q.den.n q.den.c] 30)).alloc (.cells #[.bool q'.num.g, .slice q'.num.a q'.num.n q'.num.c, .bool q'.den.g, .slice q'.den.a q'.den.n q'.den.c] 30)).cell? ⟨w.heap.size, 0, none⟩ = some (.bool q.num.g) := by simp [go_sem]
  have k0_1 : ((w.alloc (.cells #[.bool q.num.g, .slice q.num.a q.num.n q.num.c, .bool q.den.g, .slice q.den.a q.den.n q.den.c] 30)).alloc (.cells #[.bool q'.num.g, .slice q'.num.a q'.num.n q'.num.c, .bool q'.den.g, .slice q'.den.a q'.den.n q'.den.c] 30)).cell? ⟨w.heap.size, 1, none⟩ = some (.slice q.num.a q.num.n q.num.c) := by simp [go_sem]
  have k0_2 : ((w.alloc (.cells #[.bool q.num.g, .slice q.num.a q.num.n q.num.c, .bool q.den.g, .slice q.den.a q.den.n q.den.c] 30)).alloc (.cells #[.bool q'.num.g, .slice q'.num.a q'.num.n q'.num.c, .bool q'.den.g, .slice q'.den.a q'.den.n q'.den.c] 30)).cell? ⟨w.heap.size, 2, none⟩ = some (.bool q.den.g) := by simp [go_sem]
  have k0_3 : ((w.alloc (.cells #[.bool q.num.g, .slice q.num.a q.num.n q.num.c, .bool q.den.g, .slice q.den.a q.den.n q.den.c] 30)).alloc (.cells #[.bool q'.num.g, .slice q'.num.a q'.num.n q'.num.c, .bool q'.den.g, .slice q'.den.a q'.den.n q'.den.c] 30)).cell? ⟨w.heap.size, 3, none⟩ = some (.slice q.den.a q.den.n q.den.c) := by simp [go_sem]
  have k1_0 : ((w.alloc (.cells #[.bool q.num.g, .slice q.num.a q.num.n q.num.c, .bool q.den.g, .slice q.den.a q.den.n q.den.c] 30)).alloc (.cells #[.bool q'.num.g, .slice q'.num.a q'.num.n q'.num.c, .bool q'.den.g, .slice q'.den.a q'.den.n q'.den.c] 30)).cell? ⟨w.heap.size + 1, 0, none⟩ = some (.bool q'.num.g) := by simp [go_sem]
  have k1_1 : ((w.alloc (.cells #[.bool q.num.g, .slice q.num.a q.num.n q.num.c, .bool q.den.g, .slice q.den.a q.den.n q.den.c] 30)).alloc (.cells #[.bool q'.num.g, .slice q'.num.a q'.num.n q'.num.c, .bool q'.den.g, .slice q'.den.a q'.den.n q'.den.c] 30)).cell? ⟨w.heap.size + 1, 1, none⟩ = some (.slice q'.num.a q'.num.n q'.num.c) := by simp [go_sem]
  have k1_2 : ((w.alloc (.cells #[.bool q.num.g, .slice q.num.a q.num.n q.num.c, .bool q.den.g, .slice q.den.a q.den.n q.den.c] 30)).alloc (.cells #[.bool q'.num.g, .slice q'.num.a q'.num.n q'.num.c, .bool q'.den.g, .slice q'.den.a q'.den.n q'.den.c] 30)).cell? ⟨w.heap.size + 1, 2, none⟩ = some (.bool q'.den.g) := by simp [go_sem]
  have k1_3 : ((w.alloc (.cells #[.bool q.num.g, .slice q.num.a q.num.n q.num.c, .bool q.den.g, .slice q.den.a q.den.n q.den.c] 30)).alloc (.cells #[.bool q'.num.g, .slice q'.num.a q'.num.n q'.num.c, .bool q'.den.g, .slice q'.den.a q'.den.n q'.den.c] 30)).cell? ⟨w.heap.size + 1, 3, none⟩ = some (.slice q'.den.a q'.den.n q'.den.c) := by simp [go_sem]
  have Q1 := hide ((unhide H1).later hb)
  have Q2 := hide ((unhide H2).later hb)
  have szw0 : w.heap.size + 2 ≤ ((w.alloc (.cells #[.bool q.num.g, .slice q.num.a q.num.n q.num.c, .bool q.den.g, .slice q.den.a q.den.n q.den.c] 30)).alloc (.cells #[.bool q'.num.g, .slice q'.num.a q'.num.n q'.num.c, .bool q'.den.g, .slice q'.den.a q'.den.n q'.den.c] 30)).heap.size := by simp
  have HB := hide hb
  clear hb
  generalize ((w.alloc (.cells #[.bool q.num.g, .slice q.num.a q.num.n q.num.c, .bool q.den.g, .slice q.den.a q.den.n q.den.c] 30)).alloc (.cells #[.bool q'.num.g, .slice q'.num.a q'.num.n q'.num.c, .bool q'.den.g, .slice q'.den.a q'.den.n q'.den.c] 30)) = w0 at *
  go_region_held3 (fun w' => w'.cell? ⟨w.heap.size, 0, none⟩ = some (.bool q.num.g) ∧ w'.cell? ⟨w.heap.size, 1, none⟩ = some (.slice q.num.a q.num.n q.num.c) ∧ w'.cell? ⟨w.heap.size, 2, none⟩ = some (.bool q.den.g) ∧ w'.cell? ⟨w.heap.size, 3, none⟩ = some (.slice q.den.a q.den.n q.den.c) ∧ w'.cell? ⟨w.heap.size + 1, 0, none⟩ = some (.bool q'.num.g) ∧ w'.cell? ⟨w.heap.size + 1, 1, none⟩ = some (.slice q'.num.a q'.num.n q'.num.c) ∧ w'.cell? ⟨w.heap.size + 1, 2, none⟩ = some (.bool q'.den.g) ∧ w'.cell? ⟨w.heap.size + 1, 3, none⟩ = some (.slice q'.den.a q'.den.n q'.den.c)) (with_reducible (first | exact ⟨k0_0, k0_1, k0_2, k0_3, k1_0, k1_1, k1_2, k1_3⟩ | exact ⟨cd_other k0_0, cd_other k0_1, cd_other k0_2, cd_other k0_3, cd_other k1_0, cd_other k1_1, cd_other k1_2, cd_other k1_3⟩ | fail))
    (first
    | (go_at_call_of 144 (Value.agg #[Value.bool q.num.g, Value.slice q.num.a q.num.n q.num.c]); refine (mulS_v q.num q'.den N D' _ ?_ ?_ (unhide K1) (unhide K4)).mono ?_; exact (unhide Q1).1.later (Below.refl _ _).drew; exact (unhide Q2).2.later (Below.refl _ _).drew; rintro e w1 ⟨x1, lx1, rfl, hb, ox1, ax1, nx1⟩; have hbx : Below w0.heap.size w0 w1 := below_of_drew hb; have szw1 := hbx.size; replace k0_0 := cell_later hbx k0_0; replace k0_1 := cell_later hbx k0_1; replace k0_2 := cell_later hbx k0_2; replace k0_3 := cell_later hbx k0_3; replace k1_0 := cell_later hbx k1_0; replace k1_1 := cell_later hbx k1_1; replace k1_2 := cell_later hbx k1_2; replace k1_3 := cell_later hbx k1_3; replace Q1 := hide ((unhide Q1).later hbx); replace Q2 := hide ((unhide Q2).later hbx); have Px1 := hide (outN_ow ox1 ax1 nx1); have HBr := hide hbx; clear hbx hb ox1 ax1 nx1)
    | (go_at_call_of 144 (Value.agg #[Value.bool q'.num.g, Value.slice q'.num.a q'.num.n q'.num.c]); refine (mulS_v q'.num q.den N' D _ ?_ ?_ (unhide K3) (unhide K2)).mono ?_; exact (unhide Q2).1.later (Below.refl _ _); exact (unhide Q1).2.later (Below.refl _ _); rintro e w2 ⟨x2, lx2, rfl, hb, ox2, ax2, nx2⟩; have hbx : Below w1.heap.size w1 w2 := hb; have szw2 := hbx.size; replace k0_0 := cell_later hbx k0_0; replace k0_1 := cell_later hbx k0_1; replace k0_2 := cell_later hbx k0_2; replace k0_3 := cell_later hbx k0_3; replace k1_0 := cell_later hbx k1_0; replace k1_1 := cell_later hbx k1_1; replace k1_2 := cell_later hbx k1_2; replace k1_3 := cell_later hbx k1_3; replace Q1 := hide ((unhide Q1).later hbx); replace Q2 := hide ((unhide Q2).later hbx); replace Px1 := hide ((unhide Px1).later hbx); have Px2 := hide (outN_ow ox2 ax2 nx2); have HBr := hide (below_on (unhide HBr) hbx); clear hbx hb ox2 ax2 nx2)
    | (go_at_call 152; refine (cmpS_v x1 x2 (N * D') (N' * D) _ ?_ ?_).mono ?_; exact (unhide Px1).is.later (Below.refl _ _); exact (unhide Px2).is.later (Below.refl _ _); rintro e w3 ⟨rfl, hb⟩; have hbx : Below w2.heap.size w2 w3 := hb; have szw3 := hbx.size; replace k0_0 := cell_later hbx k0_0; replace k0_1 := cell_later hbx k0_1; replace k0_2 := cell_later hbx k0_2; replace k0_3 := cell_later hbx k0_3; replace k1_0 := cell_later hbx k1_0; replace k1_1 := cell_later hbx k1_1; replace k1_2 := cell_later hbx k1_2; replace k1_3 := cell_later hbx k1_3; replace Q1 := hide ((unhide Q1).later hbx); replace Q2 := hide ((unhide Q2).later hbx); replace Px1 := hide ((unhide Px1).later hbx); replace Px2 := hide ((unhide Px2).later hbx); have HBr := hide (below_on (unhide HBr) hbx); clear hbx hb))
  replace HB := hide (below_on (unhide HB) (unhide HBr))
  clear HBr
  go_wp2
  go_ret
  exact ⟨rfl, unhide HB⟩

def gS (d : SD) : Bool := (gQ d.lo && gQ d.hi) && decide (nQ d.lo * dQ d.hi ≤ nQ d.hi * dQ d.lo)
theorem cmpZ_le (A B : Int) : decide (cmpZ A B ≤ 0) = decide (A ≤ B) := by
  unfold cmpZ
  split
  · exact decide_eq_decide.2 (by omega)
  · split <;> exact decide_eq_decide.2 (by omega)
theorem AllAr.lo {w : World} {v : SV} {d : SD} (h : AllAr w [(v.lo.num, d.lo.num), (v.lo.den, d.lo.den), (v.hi.num, d.hi.num), (v.hi.den, d.hi.den)]) : AllAr w [(v.lo.num, d.lo.num), (v.lo.den, d.lo.den)] := h.Sl
theorem AllAr.hi {w : World} {v : SV} {d : SD} (h : AllAr w [(v.lo.num, d.lo.num), (v.lo.den, d.lo.den), (v.hi.num, d.hi.num), (v.hi.den, d.hi.den)]) : AllAr w [(v.hi.num, d.hi.num), (v.hi.den, d.hi.den)] := h.Sr

set_option maxHeartbeats 4000000 in
theorem goodSI (v : SV) (d : SD) (w : World) (h : AllAr w [(v.lo.num, d.lo.num), (v.lo.den, d.lo.den), (v.hi.num, d.hi.num), (v.hi.den, d.hi.den)]) :
    Calls Try.prog 111 #[.agg #[.bool v.lo.num.g, .slice v.lo.num.a v.lo.num.n v.lo.num.c, .bool v.lo.den.g, .slice v.lo.den.a v.lo.den.n v.lo.den.c, .bool v.hi.num.g, .slice v.hi.num.a v.hi.num.n v.hi.num.c, .bool v.hi.den.g, .slice v.hi.den.a v.hi.den.n v.hi.den.c]] w fun e w' => e = .returned (.bool (gS d)) ∧ Below w.heap.size w w' := by
  have H1 := hide h.lo
  have H2 := hide h.hi
  clear h
  cases hg1 : gQ d.lo
  · have G1 := hide (fun w1 (k : AllAr w1 [(v.lo.num, d.lo.num), (v.lo.den, d.lo.den)]) => goodQI v.lo d.lo w1 k)
    rw [hg1] at G1
    rw [show gS d = false from by unfold gS; rw [hg1]; rfl]
    clear hg1
    have B0 := hide (show Below w.heap.size w (w.alloc (.cells #[.bool v.lo.num.g, .slice v.lo.num.a v.lo.num.n v.lo.num.c, .bool v.lo.den.g, .slice v.lo.den.a v.lo.den.n v.lo.den.c, .bool v.hi.num.g, .slice v.hi.num.a v.hi.num.n v.hi.num.c, .bool v.hi.den.g, .slice v.hi.den.a v.hi.den.n v.hi.den.c] 41)) from ((Below.refl _ _).alloc (by simp) _))
    go_enter Try.func111, Try.ntmps111
    go_wp2_with fail
    refine (unhide G1 _ ((unhide H1).later (unhide B0))).mono ?_
    rintro e w1 ⟨rfl, hb⟩
    have HB := hide (below_on (unhide B0) hb)
    clear hb
    go_wp2
    go_ret
    exact ⟨rfl, unhide HB⟩
  · cases hg2 : gQ d.hi
    · have G1 := hide (fun w1 (k : AllAr w1 [(v.lo.num, d.lo.num), (v.lo.den, d.lo.den)]) => goodQI v.lo d.lo w1 k)
      have G2 := hide (fun w1 (k : AllAr w1 [(v.hi.num, d.hi.num), (v.hi.den, d.hi.den)]) => goodQI v.hi d.hi w1 k)
      rw [hg1] at G1
      rw [hg2] at G2
      rw [show gS d = false from by unfold gS; rw [hg1, hg2]; rfl]
      clear hg1 hg2
      have B0 := hide (show Below w.heap.size w (w.alloc (.cells #[.bool v.lo.num.g, .slice v.lo.num.a v.lo.num.n v.lo.num.c, .bool v.lo.den.g, .slice v.lo.den.a v.lo.den.n v.lo.den.c, .bool v.hi.num.g, .slice v.hi.num.a v.hi.num.n v.hi.num.c, .bool v.hi.den.g, .slice v.hi.den.a v.hi.den.n v.hi.den.c] 41)) from ((Below.refl _ _).alloc (by simp) _))
      go_enter Try.func111, Try.ntmps111
      go_wp2_with fail
      refine (unhide G1 _ ((unhide H1).later (unhide B0))).mono ?_
      rintro e w1 ⟨rfl, hb⟩
      have k0_4 : w1.cell? ⟨w.heap.size, 4, none⟩ = some (.bool v.hi.num.g) := cell_later hb (by simp [go_sem])
      have k0_5 : w1.cell? ⟨w.heap.size, 5, none⟩ = some (.slice v.hi.num.a v.hi.num.n v.hi.num.c) := cell_later hb (by simp [go_sem])
      have k0_6 : w1.cell? ⟨w.heap.size, 6, none⟩ = some (.bool v.hi.den.g) := cell_later hb (by simp [go_sem])
      have k0_7 : w1.cell? ⟨w.heap.size, 7, none⟩ = some (.slice v.hi.den.a v.hi.den.n v.hi.den.c) := cell_later hb (by simp [go_sem])
      have HB := hide (below_on (unhide B0) hb)
      clear hb
      go_wp2_with fail
      refine (unhide G2 _ ((unhide H2).later (unhide HB))).mono ?_
      rintro e w2 ⟨rfl, hb⟩
      clear k0_4 k0_5 k0_6 k0_7
      replace HB := hide (below_on (unhide HB) hb)
      clear hb
      go_wp2
      go_ret
      exact ⟨rfl, unhide HB⟩
    · have G1 := hide (fun w1 (k : AllAr w1 [(v.lo.num, d.lo.num), (v.lo.den, d.lo.den)]) => goodQI v.lo d.lo w1 k)
      have G2 := hide (fun w1 (k : AllAr w1 [(v.hi.num, d.hi.num), (v.hi.den, d.hi.den)]) => goodQI v.hi d.hi w1 k)
      rw [hg1] at G1
      rw [hg2] at G2
      have I1 := isGood_of (unhide H1) hg1
      have I2 := isGood_of (unhide H2) hg2
      have EE : Hid (decide (nQ d.lo * dQ d.hi ≤ nQ d.hi * dQ d.lo) = decide (cmpZ (nQ d.lo * dQ d.hi) (nQ d.hi * dQ d.lo) ≤ 0)) := hide (cmpZ_le _ _).symm
      have J1 := hide I1
      have J2 := hide I2
      clear I1 I2
      rw [show gS d = decide (nQ d.lo * dQ d.hi ≤ nQ d.hi * dQ d.lo) from by unfold gS; rw [hg1, hg2]; rfl]
      clear hg1 hg2
      have B0 := hide (show Below w.heap.size w (w.alloc (.cells #[.bool v.lo.num.g, .slice v.lo.num.a v.lo.num.n v.lo.num.c, .bool v.lo.den.g, .slice v.lo.den.a v.lo.den.n v.lo.den.c, .bool v.hi.num.g, .slice v.hi.num.a v.hi.num.n v.hi.num.c, .bool v.hi.den.g, .slice v.hi.den.a v.hi.den.n v.hi.den.c] 41)) from ((Below.refl _ _).alloc (by simp) _))
      go_enter Try.func111, Try.ntmps111
      go_wp2_with fail
      refine (unhide G1 _ ((unhide H1).later (unhide B0))).mono ?_
      rintro e w1 ⟨rfl, hb⟩
      have k0_0 : w1.cell? ⟨w.heap.size, 0, none⟩ = some (.bool v.lo.num.g) := cell_later hb (by simp [go_sem])
      have k0_1 : w1.cell? ⟨w.heap.size, 1, none⟩ = some (.slice v.lo.num.a v.lo.num.n v.lo.num.c) := cell_later hb (by simp [go_sem])
      have k0_2 : w1.cell? ⟨w.heap.size, 2, none⟩ = some (.bool v.lo.den.g) := cell_later hb (by simp [go_sem])
      have k0_3 : w1.cell? ⟨w.heap.size, 3, none⟩ = some (.slice v.lo.den.a v.lo.den.n v.lo.den.c) := cell_later hb (by simp [go_sem])
      have k0_4 : w1.cell? ⟨w.heap.size, 4, none⟩ = some (.bool v.hi.num.g) := cell_later hb (by simp [go_sem])
      have k0_5 : w1.cell? ⟨w.heap.size, 5, none⟩ = some (.slice v.hi.num.a v.hi.num.n v.hi.num.c) := cell_later hb (by simp [go_sem])
      have k0_6 : w1.cell? ⟨w.heap.size, 6, none⟩ = some (.bool v.hi.den.g) := cell_later hb (by simp [go_sem])
      have k0_7 : w1.cell? ⟨w.heap.size, 7, none⟩ = some (.slice v.hi.den.a v.hi.den.n v.hi.den.c) := cell_later hb (by simp [go_sem])
      have HB := hide (below_on (unhide B0) hb)
      clear hb
      go_wp2_with fail
      refine (unhide G2 _ ((unhide H2).later (unhide HB))).mono ?_
      rintro e w2 ⟨rfl, hb⟩
      replace k0_0 := cell_later hb k0_0
      replace k0_1 := cell_later hb k0_1
      replace k0_2 := cell_later hb k0_2
      replace k0_3 := cell_later hb k0_3
      replace k0_4 := cell_later hb k0_4
      replace k0_5 := cell_later hb k0_5
      replace k0_6 := cell_later hb k0_6
      replace k0_7 := cell_later hb k0_7
      replace HB := hide (below_on (unhide HB) hb)
      clear hb
      go_wp2_with fail
      refine (cmpQI v.lo v.hi _ _ _ _ _ ((unhide J1).is.later (unhide HB)) ((unhide J2).is.later (unhide HB)) ((unhide J1).kn.mono (by omega)) ((unhide J1).kd.mono (by omega)) ((unhide J2).kn.mono (by omega)) ((unhide J2).kd.mono (by omega))).mono ?_
      rintro e w3 ⟨rfl, hb⟩
      clear k0_0 k0_1 k0_2 k0_3 k0_4 k0_5 k0_6 k0_7
      replace HB := hide (below_on (unhide HB) hb)
      clear hb
      go_wp2
      go_ret
      exact ⟨by rw [unhide EE]; simp, unhide HB⟩

set_option maxHeartbeats 4000000 in
theorem goodSS (v : SV) (d : SD) (w : World) (h : AllAr w [(v.lo.num, d.lo.num), (v.lo.den, d.lo.den), (v.hi.num, d.hi.num), (v.hi.den, d.hi.den)]) :
    Calls Try.prog 105 #[.agg #[.bool v.lo.num.g, .slice v.lo.num.a v.lo.num.n v.lo.num.c, .bool v.lo.den.g, .slice v.lo.den.a v.lo.den.n v.lo.den.c, .bool v.hi.num.g, .slice v.hi.num.a v.hi.num.n v.hi.num.c, .bool v.hi.den.g, .slice v.hi.den.a v.hi.den.n v.hi.den.c]] w fun e w' => e = .returned (.bool (gS d)) ∧ Below w.heap.size w w' := by
  have H1 := hide h.lo
  have H2 := hide h.hi
  clear h
  cases hP : (gQ d.lo && gQ d.hi)
  · have GB := hide (fun w1 (k : AllAr w1 [(v.lo.num, d.lo.num), (v.lo.den, d.lo.den)]) (k' : AllAr w1 [(v.hi.num, d.hi.num), (v.hi.den, d.hi.den)]) => bothQS v.lo v.hi d.lo d.hi w1 k k')
    rw [hP] at GB
    rw [show gS d = false from by unfold gS; rw [hP]; rfl]
    clear hP
    have B0 := hide (show Below w.heap.size w (w.alloc (.cells #[.bool v.lo.num.g, .slice v.lo.num.a v.lo.num.n v.lo.num.c, .bool v.lo.den.g, .slice v.lo.den.a v.lo.den.n v.lo.den.c, .bool v.hi.num.g, .slice v.hi.num.a v.hi.num.n v.hi.num.c, .bool v.hi.den.g, .slice v.hi.den.a v.hi.den.n v.hi.den.c] 41)) from ((Below.refl _ _).alloc (by simp) _))
    go_enter Try.func105, Try.ntmps105
    go_wp2_with fail
    refine (unhide GB _ ((unhide H1).later (unhide B0)) ((unhide H2).later (unhide B0))).mono ?_
    rintro e w1 ⟨rfl, hb⟩
    have HB := hide (below_on (unhide B0) hb)
    clear hb
    go_wp2
    go_ret
    exact ⟨rfl, unhide HB⟩
  · have GB := hide (fun w1 (k : AllAr w1 [(v.lo.num, d.lo.num), (v.lo.den, d.lo.den)]) (k' : AllAr w1 [(v.hi.num, d.hi.num), (v.hi.den, d.hi.den)]) => bothQS v.lo v.hi d.lo d.hi w1 k k')
    rw [hP] at GB
    have hg1 : gQ d.lo = true := by revert hP; cases gQ d.lo <;> simp
    have hg2 : gQ d.hi = true := by revert hP; cases gQ d.hi <;> simp
    have I1 := isGood_of (unhide H1) hg1
    have I2 := isGood_of (unhide H2) hg2
    have EE : Hid (decide (nQ d.lo * dQ d.hi ≤ nQ d.hi * dQ d.lo) = decide (cmpZ (nQ d.lo * dQ d.hi) (nQ d.hi * dQ d.lo) ≤ 0)) := hide (cmpZ_le _ _).symm
    have J1 := hide I1
    have J2 := hide I2
    clear I1 I2
    rw [show gS d = decide (nQ d.lo * dQ d.hi ≤ nQ d.hi * dQ d.lo) from by unfold gS; rw [hP]; rfl]
    clear hg1 hg2 hP
    have B0 := hide (show Below w.heap.size w (w.alloc (.cells #[.bool v.lo.num.g, .slice v.lo.num.a v.lo.num.n v.lo.num.c, .bool v.lo.den.g, .slice v.lo.den.a v.lo.den.n v.lo.den.c, .bool v.hi.num.g, .slice v.hi.num.a v.hi.num.n v.hi.num.c, .bool v.hi.den.g, .slice v.hi.den.a v.hi.den.n v.hi.den.c] 41)) from ((Below.refl _ _).alloc (by simp) _))
    go_enter Try.func105, Try.ntmps105
    go_wp2_with fail
    refine (unhide GB _ ((unhide H1).later (unhide B0)) ((unhide H2).later (unhide B0))).mono ?_
    rintro e w1 ⟨rfl, hb⟩
    have k0_0 : w1.cell? ⟨w.heap.size, 0, none⟩ = some (.bool v.lo.num.g) := cell_later hb (by simp [go_sem])
    have k0_1 : w1.cell? ⟨w.heap.size, 1, none⟩ = some (.slice v.lo.num.a v.lo.num.n v.lo.num.c) := cell_later hb (by simp [go_sem])
    have k0_2 : w1.cell? ⟨w.heap.size, 2, none⟩ = some (.bool v.lo.den.g) := cell_later hb (by simp [go_sem])
    have k0_3 : w1.cell? ⟨w.heap.size, 3, none⟩ = some (.slice v.lo.den.a v.lo.den.n v.lo.den.c) := cell_later hb (by simp [go_sem])
    have k0_4 : w1.cell? ⟨w.heap.size, 4, none⟩ = some (.bool v.hi.num.g) := cell_later hb (by simp [go_sem])
    have k0_5 : w1.cell? ⟨w.heap.size, 5, none⟩ = some (.slice v.hi.num.a v.hi.num.n v.hi.num.c) := cell_later hb (by simp [go_sem])
    have k0_6 : w1.cell? ⟨w.heap.size, 6, none⟩ = some (.bool v.hi.den.g) := cell_later hb (by simp [go_sem])
    have k0_7 : w1.cell? ⟨w.heap.size, 7, none⟩ = some (.slice v.hi.den.a v.hi.den.n v.hi.den.c) := cell_later hb (by simp [go_sem])
    have HB := hide (below_on (unhide B0) hb)
    clear hb
    go_wp2_with fail
    refine (cmpQS v.lo v.hi _ _ _ _ _ ((unhide J1).is.later (unhide HB)) ((unhide J2).is.later (unhide HB)) ((unhide J1).kn.mono (by omega)) ((unhide J1).kd.mono (by omega)) ((unhide J2).kn.mono (by omega)) ((unhide J2).kd.mono (by omega))).mono ?_
    rintro e w3 ⟨rfl, hb⟩
    clear k0_0 k0_1 k0_2 k0_3 k0_4 k0_5 k0_6 k0_7
    replace HB := hide (below_on (unhide HB) hb)
    clear hb
    go_wp2
    go_ret
    exact ⟨by rw [unhide EE]; simp, unhide HB⟩

structure IsGoodS (w : World) (v : SV) (d : SD) : Prop where
  lo : IsGood w v.lo d.lo
  hi : IsGood w v.hi d.hi
  le : nQ d.lo * dQ d.hi ≤ nQ d.hi * dQ d.lo
theorem isGoodS_of {w : World} {v : SV} {d : SD} (h : AllAr w [(v.lo.num, d.lo.num), (v.lo.den, d.lo.den), (v.hi.num, d.hi.num), (v.hi.den, d.hi.den)]) (hg : gS d = true) : IsGoodS w v d := by
  unfold gS at hg
  simp only [Bool.and_eq_true, decide_eq_true_eq] at hg
  exact ⟨isGood_of h.lo hg.1.1, isGood_of h.hi hg.1.2, hg.2⟩
theorem IsGoodS.later {w w' : World} {v : SV} {d : SD} (h : IsGoodS w v d) (hb : Below w.heap.size w w') : IsGoodS w' v d := ⟨h.lo.later hb, h.hi.later hb, h.le⟩

end Go.Proofs.Ytlmeokeanihhoaa
namespace Go.Proofs.Ytlmeokeanihhoaa
open Go.RowKit
set_option linter.unusedVariables false
set_option maxRecDepth 100000
set_option linter.unusedSimpArgs false

/-- A variable of the law's own: its box at block G, what it leads to at blocks from lo to below hi. -/
structure VarS (wx : World) (G lo hi : Nat) (v : SV) (d : SD) : Prop where
  c0 : wx.cell? ⟨G, 0, none⟩ = some (.bool v.lo.num.g)
  c1 : wx.cell? ⟨G, 1, none⟩ = some (.slice v.lo.num.a v.lo.num.n v.lo.num.c)
  c2 : wx.cell? ⟨G, 2, none⟩ = some (.bool v.lo.den.g)
  c3 : wx.cell? ⟨G, 3, none⟩ = some (.slice v.lo.den.a v.lo.den.n v.lo.den.c)
  c4 : wx.cell? ⟨G, 4, none⟩ = some (.bool v.hi.num.g)
  c5 : wx.cell? ⟨G, 5, none⟩ = some (.slice v.hi.num.a v.hi.num.n v.hi.num.c)
  c6 : wx.cell? ⟨G, 6, none⟩ = some (.bool v.hi.den.g)
  c7 : wx.cell? ⟨G, 7, none⟩ = some (.slice v.hi.den.a v.hi.den.n v.hi.den.c)
  own : AllOwn lo hi wx [(v.lo.num, d.lo.num), (v.lo.den, d.lo.den), (v.hi.num, d.hi.num), (v.hi.den, d.hi.den)]
theorem VarS.later {wx wy : World} {G lo hi : Nat} {v : SV} {d : SD} (h : VarS wx G lo hi v d) (hb : Below wx.heap.size wx wy) : VarS wy G lo hi v d :=
  ⟨cell_later hb h.c0, cell_later hb h.c1, cell_later hb h.c2, cell_later hb h.c3, cell_later hb h.c4, cell_later hb h.c5, cell_later hb h.c6, cell_later hb h.c7, h.own.later hb⟩
theorem VarS.but {wx wy : World} {G lo hi lo' hi' : Nat} {v : SV} {d : SD} (h : VarS wx G lo hi v d) (hb : But lo' hi' wx wy) (hG : G < lo' ∨ hi' ≤ G) (hd : hi ≤ lo' ∨ hi' ≤ lo) : VarS wy G lo hi v d :=
  ⟨hb.cell h.c0 hG, hb.cell h.c1 hG, hb.cell h.c2 hG, hb.cell h.c3 hG, hb.cell h.c4 hG, hb.cell h.c5 hG, hb.cell h.c6 hG, hb.cell h.c7 hG, h.own.but hb hd⟩
theorem VarS.mark {wx wy : World} {G lo hi : Nat} {v : SV} {d d' : SD} (h : VarS wx G lo hi v d) (hb : But lo hi wx wy) (hG : G < lo ∨ hi ≤ G) (ho : AllOwn lo hi wy [(v.lo.num, d'.lo.num), (v.lo.den, d'.lo.den), (v.hi.num, d'.hi.num), (v.hi.den, d'.hi.den)]) : VarS wy G lo hi v d' :=
  ⟨hb.cell h.c0 hG, hb.cell h.c1 hG, hb.cell h.c2 hG, hb.cell h.c3 hG, hb.cell h.c4 hG, hb.cell h.c5 hG, hb.cell h.c6 hG, hb.cell h.c7 hG, ho⟩
theorem VarS.low {wx : World} {G lo hi lo' : Nat} {v : SV} {d : SD} (h : VarS wx G lo hi v d) (hl : lo' ≤ lo) : VarS wx G lo' hi v d := ⟨h.c0, h.c1, h.c2, h.c3, h.c4, h.c5, h.c6, h.c7, h.own.wide hl (Nat.le_refl _)⟩
theorem VarS.start {wx : World} {lo : Nat} {v : SV} {d : SD} (t : TypeId) (h : AllOwn lo wx.heap.size wx [(v.lo.num, d.lo.num), (v.lo.den, d.lo.den), (v.hi.num, d.hi.num), (v.hi.den, d.hi.den)]) : VarS (wx.alloc (.cells #[.bool v.lo.num.g, .slice v.lo.num.a v.lo.num.n v.lo.num.c, .bool v.lo.den.g, .slice v.lo.den.a v.lo.den.n v.lo.den.c, .bool v.hi.num.g, .slice v.hi.num.a v.hi.num.n v.hi.num.c, .bool v.hi.den.g, .slice v.hi.den.a v.hi.den.n v.hi.den.c] t)) wx.heap.size lo wx.heap.size v d :=
  ⟨by simp [go_sem], by simp [go_sem], by simp [go_sem], by simp [go_sem], by simp [go_sem], by simp [go_sem], by simp [go_sem], by simp [go_sem], h.later ((Below.refl _ _).alloc (Nat.le_refl _) _)⟩
theorem VarS.gt {wx : World} {G lo hi : Nat} {v : SV} {d : SD} (h : VarS wx G lo hi v d) : G < wx.heap.size := World.block_lt_of_cell? _ _ h.c0
/-- An answer lies in its box. -/
structure MetS (wk wx : World) (G : Nat) (v : SV) (d : SD) : Prop where
  lo : wk.heap.size ≤ G
  hi : G < wx.heap.size
  var : VarS wx G wk.heap.size wx.heap.size v d
  bel : Below wk.heap.size wk wx
theorem metS_alloc {wk w5 : World} {v : SV} {d : SD} {B : Nat} (t : TypeId) (hk : Below wk.heap.size wk w5) (ho : AllOwn B w5.heap.size w5 [(v.lo.num, d.lo.num), (v.lo.den, d.lo.den), (v.hi.num, d.hi.num), (v.hi.den, d.hi.den)]) (hB : wk.heap.size ≤ B) :
    MetS wk (w5.alloc (.cells #[.bool v.lo.num.g, .slice v.lo.num.a v.lo.num.n v.lo.num.c, .bool v.lo.den.g, .slice v.lo.den.a v.lo.den.n v.lo.den.c, .bool v.hi.num.g, .slice v.hi.num.a v.hi.num.n v.hi.num.c, .bool v.hi.den.g, .slice v.hi.den.a v.hi.den.n v.hi.den.c] t)) w5.heap.size v d := by
  have hv := VarS.start t (ho.wide hB (Nat.le_refl _))
  exact ⟨hk.size, by simp, ⟨hv.c0, hv.c1, hv.c2, hv.c3, hv.c4, hv.c5, hv.c6, hv.c7, hv.own.wide (Nat.le_refl _) (by simp)⟩, hk.alloc hk.size _⟩
theorem metS_but {w5 : World} {v : SV} {G : Nat} : But G (G + 1) w5 ((((((((w5.setCell ⟨G, 0, none⟩ (.bool v.lo.num.g)).setCell ⟨G, 1, none⟩ (.slice v.lo.num.a v.lo.num.n v.lo.num.c)).setCell ⟨G, 2, none⟩ (.bool v.lo.den.g)).setCell ⟨G, 3, none⟩ (.slice v.lo.den.a v.lo.den.n v.lo.den.c)).setCell ⟨G, 4, none⟩ (.bool v.hi.num.g)).setCell ⟨G, 5, none⟩ (.slice v.hi.num.a v.hi.num.n v.hi.num.c)).setCell ⟨G, 6, none⟩ (.bool v.hi.den.g)).setCell ⟨G, 7, none⟩ (.slice v.hi.den.a v.hi.den.n v.hi.den.c)) := (((((((((But.refl _ _ _).set (p := ⟨G, 0, none⟩) (Nat.le_refl _) (Nat.lt_succ_self _) _).set (p := ⟨G, 1, none⟩) (Nat.le_refl _) (Nat.lt_succ_self _) _).set (p := ⟨G, 2, none⟩) (Nat.le_refl _) (Nat.lt_succ_self _) _).set (p := ⟨G, 3, none⟩) (Nat.le_refl _) (Nat.lt_succ_self _) _).set (p := ⟨G, 4, none⟩) (Nat.le_refl _) (Nat.lt_succ_self _) _).set (p := ⟨G, 5, none⟩) (Nat.le_refl _) (Nat.lt_succ_self _) _).set (p := ⟨G, 6, none⟩) (Nat.le_refl _) (Nat.lt_succ_self _) _).set (p := ⟨G, 7, none⟩) (Nat.le_refl _) (Nat.lt_succ_self _) _)
theorem metS_set {wk w5 : World} {v : SV} {d : SD} {B G : Nat} {z0 : Value} {z1 : Value} {z2 : Value} {z3 : Value} {z4 : Value} {z5 : Value} {z6 : Value} {z7 : Value} (hk : Below wk.heap.size wk w5) (ho : AllOwn B w5.heap.size w5 [(v.lo.num, d.lo.num), (v.lo.den, d.lo.den), (v.hi.num, d.hi.num), (v.hi.den, d.hi.den)]) (hG : wk.heap.size ≤ G) (hGB : G < B) (e0 : w5.cell? ⟨G, 0, none⟩ = some z0) (e1 : w5.cell? ⟨G, 1, none⟩ = some z1) (e2 : w5.cell? ⟨G, 2, none⟩ = some z2) (e3 : w5.cell? ⟨G, 3, none⟩ = some z3) (e4 : w5.cell? ⟨G, 4, none⟩ = some z4) (e5 : w5.cell? ⟨G, 5, none⟩ = some z5) (e6 : w5.cell? ⟨G, 6, none⟩ = some z6) (e7 : w5.cell? ⟨G, 7, none⟩ = some z7) :
    MetS wk ((((((((w5.setCell ⟨G, 0, none⟩ (.bool v.lo.num.g)).setCell ⟨G, 1, none⟩ (.slice v.lo.num.a v.lo.num.n v.lo.num.c)).setCell ⟨G, 2, none⟩ (.bool v.lo.den.g)).setCell ⟨G, 3, none⟩ (.slice v.lo.den.a v.lo.den.n v.lo.den.c)).setCell ⟨G, 4, none⟩ (.bool v.hi.num.g)).setCell ⟨G, 5, none⟩ (.slice v.hi.num.a v.hi.num.n v.hi.num.c)).setCell ⟨G, 6, none⟩ (.bool v.hi.den.g)).setCell ⟨G, 7, none⟩ (.slice v.hi.den.a v.hi.den.n v.hi.den.c)) G v d := by
  have hb := metS_but (w5 := w5) (v := v) (G := G)
  have hlt : G < w5.heap.size := World.block_lt_of_cell? _ _ e0
  refine ⟨hG, by have := hb.size; omega, ⟨?_, ?_, ?_, ?_, ?_, ?_, ?_, ?_, ?_⟩, hb.below hk hG hk.size⟩
  · simp [go_sem, e0, e1, e2, e3, e4, e5, e6, e7]
  · simp [go_sem, e0, e1, e2, e3, e4, e5, e6, e7]
  · simp [go_sem, e0, e1, e2, e3, e4, e5, e6, e7]
  · simp [go_sem, e0, e1, e2, e3, e4, e5, e6, e7]
  · simp [go_sem, e0, e1, e2, e3, e4, e5, e6, e7]
  · simp [go_sem, e0, e1, e2, e3, e4, e5, e6, e7]
  · simp [go_sem, e0, e1, e2, e3, e4, e5, e6, e7]
  · simp [go_sem, e0, e1, e2, e3, e4, e5, e6, e7]
  · exact (ho.but hb (.inr (by omega))).wide (by omega) hb.size
end Go.Proofs.Ytlmeokeanihhoaa
namespace Go.Proofs.Ytlmeokeanihhoaa
open Go.RowKit
set_option linter.unusedVariables false
set_option maxRecDepth 100000
set_option linter.unusedSimpArgs false

set_option maxHeartbeats 4000000 in
theorem copyB (b : BV) (V : Int) (w : World) (h : IsB w b V) (k : Bd V 400000) : Calls Try.prog 141 #[.agg #[.bool b.g, .slice b.a b.n b.c]] w (OutN w V) := by
  obtain ⟨xs, hx, _, hl, nx, sx⟩ := h.num k (by omega)
  have HX := hide hx.arg
  have NX := hide nx
  have SX : Hid (sU b.g (V.natAbs : Int) = V) := hide (by rw [sx]; unfold sU; by_cases e : V < 0 <;> simp [e] <;> omega)
  clear h hx nx sx
  go_enter Try.func141, Try.ntmps141
  go_upto_region 1 with fail
  have hb : Below w.heap.size w ((w.alloc (.cells #[.bool b.g, .slice b.a b.n b.c] 28)).alloc (.cells #[.bool false, .slice none 0 0] 28)) := (((Below.refl _ _).alloc (by simp) _).alloc (by simp) _)
  have k0_0 : ((w.alloc (.cells #[.bool b.g, .slice b.a b.n b.c] 28)).alloc (.cells #[.bool false, .slice none 0 0] 28)).cell? ⟨w.heap.size, 0, none⟩ = some (.bool b.g) := by simp [go_sem]
  have k0_1 : ((w.alloc (.cells #[.bool b.g, .slice b.a b.n b.c] 28)).alloc (.cells #[.bool false, .slice none 0 0] 28)).cell? ⟨w.heap.size, 1, none⟩ = some (.slice b.a b.n b.c) := by simp [go_sem]
  have k1_0 : ((w.alloc (.cells #[.bool b.g, .slice b.a b.n b.c] 28)).alloc (.cells #[.bool false, .slice none 0 0] 28)).cell? ⟨w.heap.size + 1, 0, none⟩ = some (.bool false) := by simp [go_sem]
  have k1_1 : ((w.alloc (.cells #[.bool b.g, .slice b.a b.n b.c] 28)).alloc (.cells #[.bool false, .slice none 0 0] 28)).cell? ⟨w.heap.size + 1, 1, none⟩ = some (.slice none 0 0) := by simp [go_sem]
  have z1 : ∀ o, ((w.alloc (.cells #[.bool b.g, .slice b.a b.n b.c] 28)).alloc (.cells #[.bool false, .slice none 0 0] 28)).frozen? ⟨w.heap.size + 1, o, none⟩ = false := fun o => by simp [go_sem]
  have A := hide ((unhide HX).later hb)
  have szw0 : w.heap.size + 2 ≤ ((w.alloc (.cells #[.bool b.g, .slice b.a b.n b.c] 28)).alloc (.cells #[.bool false, .slice none 0 0] 28)).heap.size := by simp
  have HB := hide hb
  clear hb
  generalize ((w.alloc (.cells #[.bool b.g, .slice b.a b.n b.c] 28)).alloc (.cells #[.bool false, .slice none 0 0] 28)) = w0 at *
  have ne0_1 : w.heap.size ≠ w.heap.size + 1 := by omega
  go_region_held3 (fun w' => w'.cell? ⟨w.heap.size, 0, none⟩ = some (.bool b.g) ∧ w'.cell? ⟨w.heap.size, 1, none⟩ = some (.slice b.a b.n b.c)) (with_reducible (first | exact ⟨k0_0, k0_1⟩ | exact ⟨cd_other k0_0, cd_other k0_1⟩ | exact ⟨cs_other (cs_other (k0_0) ne0_1) ne0_1, cs_other (cs_other (k0_1) ne0_1) ne0_1⟩ | fail))
    (first
    | (go_at_call 187; refine (clone_any b.a b.n b.c xs _ ?_ (by omega)).mono ?_; exact (unhide A).later (Below.refl _ _).drew; rintro e w1 ⟨a1, c1, rfl, hb, ho, ha⟩; have hbx : Below w0.heap.size w0 w1 := below_of_drew hb; have szw1 := hbx.size; replace z1 := fun o => frozen_later hbx (World.block_lt_of_cell? _ _ k1_0) (z1 o); replace k0_0 := cell_later hbx k0_0; replace k0_1 := cell_later hbx k0_1; replace k1_0 := cell_later hbx k1_0; replace k1_1 := cell_later hbx k1_1; replace A := hide ((unhide A).later hbx); have A1 := hide (ha); have O1 := hide (ho.two); have HBr := hide hbx; clear hbx hb ho ha)
    | (go_at_call 186; refine (signI_v _ a1 b.n c1 xs _ w0.heap.size w1.heap.size (V.natAbs : Int) ?_ ?_ (unhide NX)).mono ?_; exact (unhide A1).later (Below.refl _ _); exact (unhide O1).later (Below.refl _ _); rintro e w2 ⟨x1, rfl, hb, ow, ar⟩; have hbx : Below w1.heap.size w1 w2 := hb; have szw2 := hbx.size; replace z1 := fun o => frozen_later hbx (World.block_lt_of_cell? _ _ k1_0) (z1 o); replace k0_0 := cell_later hbx k0_0; replace k0_1 := cell_later hbx k0_1; replace k1_0 := cell_later hbx k1_0; replace k1_1 := cell_later hbx k1_1; replace A := hide ((unhide A).later hbx); replace A1 := hide ((unhide A1).later hbx); replace O1 := hide ((unhide O1).later hbx); rw [unhide SX] at ow ar; have OW := hide (ow); have AR := hide (ar); have HBr := hide (below_on (unhide HBr) hbx); clear hbx hb ow ar))
  replace HB := hide (below_on (unhide HB) (unhide HBr))
  clear HBr
  go_wp2
  refine bodyPost_ret (v := .agg #[.bool x1.g, .slice x1.a x1.n x1.c]) (by simp [results, Try.results141, go_sem, k1_0, k1_1]) rfl ?_
  exact outN_fin (b := x1) (R := w.heap.size + 1) (by omega) (unhide HB) (metB_but (w5 := w2) (v := x1) (G := w.heap.size + 1)) ((unhide OW).wide (by omega) (by omega)) (unhide AR) (unhide NX)

set_option maxHeartbeats 4000000 in
theorem copyQ (q : QV) (N D : Int) (w : World) (h : IsQ w q N D) (k1 : Bd N 400000) (k2 : Bd D 400000) : Calls Try.prog 202 #[.agg #[.bool q.num.g, .slice q.num.a q.num.n q.num.c, .bool q.den.g, .slice q.den.a q.den.n q.den.c]] w (OutQ w N D) := by
  have H1 := hide h
  have K1 := hide k1
  have K2 := hide k2
  clear h k1 k2
  go_enter Try.func202, Try.ntmps202
  go_upto_region 1 with fail
  have hb : Below w.heap.size w ((w.alloc (.cells #[.bool q.num.g, .slice q.num.a q.num.n q.num.c, .bool q.den.g, .slice q.den.a q.den.n q.den.c] 30)).alloc (.cells #[.bool false, .slice none 0 0, .bool false, .slice none 0 0] 30)) := (((Below.refl _ _).alloc (by simp) _).alloc (by simp) _)
  have k0_0 : ((w.alloc (.cells #[.bool q.num.g, .slice q.num.a q.num.n q.num.c, .bool q.den.g, .slice q.den.a q.den.n q.den.c] 30)).alloc (.cells #[.bool false, .slice none 0 0, .bool false, .slice none 0 0] 30)).cell? ⟨w.heap.size, 0, none⟩ = some (.bool q.num.g) := by simp [go_sem]
  have k0_1 : ((w.alloc (.cells #[.bool q.num.g, .slice q.num.a q.num.n q.num.c, .bool q.den.g, .slice q.den.a q.den.n q.den.c] 30)).alloc (.cells #[.bool false, .slice none 0 0, .bool false, .slice none 0 0] 30)).cell? ⟨w.heap.size, 1, none⟩ = some (.slice q.num.a q.num.n q.num.c) := by simp [go_sem]
  have k0_2 : ((w.alloc (.cells #[.bool q.num.g, .slice q.num.a q.num.n q.num.c, .bool q.den.g, .slice q.den.a q.den.n q.den.c] 30)).alloc (.cells #[.bool false, .slice none 0 0, .bool false, .slice none 0 0] 30)).cell? ⟨w.heap.size, 2, none⟩ = some (.bool q.den.g) := by simp [go_sem]
  have k0_3 : ((w.alloc (.cells #[.bool q.num.g, .slice q.num.a q.num.n q.num.c, .bool q.den.g, .slice q.den.a q.den.n q.den.c] 30)).alloc (.cells #[.bool false, .slice none 0 0, .bool false, .slice none 0 0] 30)).cell? ⟨w.heap.size, 3, none⟩ = some (.slice q.den.a q.den.n q.den.c) := by simp [go_sem]
  have k1_0 : ((w.alloc (.cells #[.bool q.num.g, .slice q.num.a q.num.n q.num.c, .bool q.den.g, .slice q.den.a q.den.n q.den.c] 30)).alloc (.cells #[.bool false, .slice none 0 0, .bool false, .slice none 0 0] 30)).cell? ⟨w.heap.size + 1, 0, none⟩ = some (.bool false) := by simp [go_sem]
  have k1_1 : ((w.alloc (.cells #[.bool q.num.g, .slice q.num.a q.num.n q.num.c, .bool q.den.g, .slice q.den.a q.den.n q.den.c] 30)).alloc (.cells #[.bool false, .slice none 0 0, .bool false, .slice none 0 0] 30)).cell? ⟨w.heap.size + 1, 1, none⟩ = some (.slice none 0 0) := by simp [go_sem]
  have k1_2 : ((w.alloc (.cells #[.bool q.num.g, .slice q.num.a q.num.n q.num.c, .bool q.den.g, .slice q.den.a q.den.n q.den.c] 30)).alloc (.cells #[.bool false, .slice none 0 0, .bool false, .slice none 0 0] 30)).cell? ⟨w.heap.size + 1, 2, none⟩ = some (.bool false) := by simp [go_sem]
  have k1_3 : ((w.alloc (.cells #[.bool q.num.g, .slice q.num.a q.num.n q.num.c, .bool q.den.g, .slice q.den.a q.den.n q.den.c] 30)).alloc (.cells #[.bool false, .slice none 0 0, .bool false, .slice none 0 0] 30)).cell? ⟨w.heap.size + 1, 3, none⟩ = some (.slice none 0 0) := by simp [go_sem]
  have z1 : ∀ o, ((w.alloc (.cells #[.bool q.num.g, .slice q.num.a q.num.n q.num.c, .bool q.den.g, .slice q.den.a q.den.n q.den.c] 30)).alloc (.cells #[.bool false, .slice none 0 0, .bool false, .slice none 0 0] 30)).frozen? ⟨w.heap.size + 1, o, none⟩ = false := fun o => by simp [go_sem]
  have Q1 := hide ((unhide H1).later hb)
  have szw0 : w.heap.size + 2 ≤ ((w.alloc (.cells #[.bool q.num.g, .slice q.num.a q.num.n q.num.c, .bool q.den.g, .slice q.den.a q.den.n q.den.c] 30)).alloc (.cells #[.bool false, .slice none 0 0, .bool false, .slice none 0 0] 30)).heap.size := by simp
  have HB := hide hb
  clear hb
  generalize ((w.alloc (.cells #[.bool q.num.g, .slice q.num.a q.num.n q.num.c, .bool q.den.g, .slice q.den.a q.den.n q.den.c] 30)).alloc (.cells #[.bool false, .slice none 0 0, .bool false, .slice none 0 0] 30)) = w0 at *
  have ne0_1 : w.heap.size ≠ w.heap.size + 1 := by omega
  go_region_held3 (fun w' => w'.cell? ⟨w.heap.size, 0, none⟩ = some (.bool q.num.g) ∧ w'.cell? ⟨w.heap.size, 1, none⟩ = some (.slice q.num.a q.num.n q.num.c) ∧ w'.cell? ⟨w.heap.size, 2, none⟩ = some (.bool q.den.g) ∧ w'.cell? ⟨w.heap.size, 3, none⟩ = some (.slice q.den.a q.den.n q.den.c)) (with_reducible (first | exact ⟨k0_0, k0_1, k0_2, k0_3⟩ | exact ⟨cd_other k0_0, cd_other k0_1, cd_other k0_2, cd_other k0_3⟩ | exact ⟨cs_other (cs_other (cs_other (cs_other (k0_0) ne0_1) ne0_1) ne0_1) ne0_1, cs_other (cs_other (cs_other (cs_other (k0_1) ne0_1) ne0_1) ne0_1) ne0_1, cs_other (cs_other (cs_other (cs_other (k0_2) ne0_1) ne0_1) ne0_1) ne0_1, cs_other (cs_other (cs_other (cs_other (k0_3) ne0_1) ne0_1) ne0_1) ne0_1⟩ | fail))
    (first
    | (go_at_call_of 141 (Value.agg #[Value.bool q.num.g, Value.slice q.num.a q.num.n q.num.c]); refine (copyB q.num N _ ?_ (unhide K1)).mono ?_; exact (unhide Q1).1.later (Below.refl _ _).drew; rintro e w1 ⟨x1, l1, rfl, hb, o1, a1, n1⟩; have hbx : Below w0.heap.size w0 w1 := below_of_drew hb; have szw1 := hbx.size; replace z1 := fun o => frozen_later hbx (World.block_lt_of_cell? _ _ k1_0) (z1 o); replace k0_0 := cell_later hbx k0_0; replace k0_1 := cell_later hbx k0_1; replace k0_2 := cell_later hbx k0_2; replace k0_3 := cell_later hbx k0_3; replace k1_0 := cell_later hbx k1_0; replace k1_1 := cell_later hbx k1_1; replace k1_2 := cell_later hbx k1_2; replace k1_3 := cell_later hbx k1_3; replace Q1 := hide ((unhide Q1).later hbx); have o1x : AllOwn w0.heap.size w1.heap.size w1 [(x1, ⟨decide (N < 0), l1⟩)] := o1; have P1 := hide (outN_ow o1x a1 n1); have HBr := hide hbx; clear hbx hb o1 a1 n1 o1x)
    | (go_at_call_of 141 (Value.agg #[Value.bool q.den.g, Value.slice q.den.a q.den.n q.den.c]); refine (copyB q.den D _ ?_ (unhide K2)).mono ?_; exact (unhide Q1).2.later (Below.refl _ _); rintro e w2 ⟨x2, l2, rfl, hb, o2, a2, n2⟩; have hbx : Below w1.heap.size w1 w2 := hb; have szw2 := hbx.size; replace z1 := fun o => frozen_later hbx (World.block_lt_of_cell? _ _ k1_0) (z1 o); replace k0_0 := cell_later hbx k0_0; replace k0_1 := cell_later hbx k0_1; replace k0_2 := cell_later hbx k0_2; replace k0_3 := cell_later hbx k0_3; replace k1_0 := cell_later hbx k1_0; replace k1_1 := cell_later hbx k1_1; replace k1_2 := cell_later hbx k1_2; replace k1_3 := cell_later hbx k1_3; replace Q1 := hide ((unhide Q1).later hbx); replace P1 := hide ((unhide P1).later hbx); have P2 := hide (outN_ow o2 a2 n2); have HBr := hide (below_on (unhide HBr) hbx); clear hbx hb o2 a2 n2))
  replace HB := hide (below_on (unhide HB) (unhide HBr))
  clear HBr
  go_wp2
  refine bodyPost_ret (v := .agg #[.bool x1.g, .slice x1.a x1.n x1.c, .bool x2.g, .slice x2.a x2.n x2.c]) (by simp [results, Try.results202, go_sem, k1_0, k1_1, k1_2, k1_3]) rfl ?_
  obtain ⟨zs, us, oo, aa, m1, m2⟩ := (unhide P1).two (unhide P2) (by omega) (by omega)
  exact outQ_fin (q := ⟨x1, x2⟩) (R := w.heap.size + 1) (by omega) (unhide HB) (metQ_but (w5 := w2) (v := ⟨x1, x2⟩) (G := w.heap.size + 1)) (oo.wide (by omega) (by omega)) aa m1 m2

/-- A call answers the span from N / D to N' / D' in memory of its own. -/
def OutS (w : World) (N D N' D' : Int) (e : Ending) (w' : World) : Prop := ∃ (v : SV) (xs us ys vs : List Int), e = .returned (.agg #[.bool v.lo.num.g, .slice v.lo.num.a v.lo.num.n v.lo.num.c, .bool v.lo.den.g, .slice v.lo.den.a v.lo.den.n v.lo.den.c, .bool v.hi.num.g, .slice v.hi.num.a v.hi.num.n v.hi.num.c, .bool v.hi.den.g, .slice v.hi.den.a v.hi.den.n v.hi.den.c]) ∧ Below w.heap.size w w' ∧ AllOwn w.heap.size w'.heap.size w' [(v.lo.num, ⟨decide (N < 0), xs⟩), (v.lo.den, ⟨decide (D < 0), us⟩), (v.hi.num, ⟨decide (N' < 0), ys⟩), (v.hi.den, ⟨decide (D' < 0), vs⟩)] ∧ AllAr w' [(v.lo.num, ⟨decide (N < 0), xs⟩), (v.lo.den, ⟨decide (D < 0), us⟩), (v.hi.num, ⟨decide (N' < 0), ys⟩), (v.hi.den, ⟨decide (D' < 0), vs⟩)] ∧ Nm xs N.natAbs ∧ Nm us D.natAbs ∧ Nm ys N'.natAbs ∧ Nm vs D'.natAbs
theorem outS_fin {w wN W : World} {R : Nat} {v : SV} {xs us ys vs : List Int} {N D N' D' : Int} (hR : w.heap.size ≤ R) (hb : Below w.heap.size w wN) (bt : But R (R + 1) wN W) (ho : AllOwn (R + 1) wN.heap.size wN [(v.lo.num, ⟨decide (N < 0), xs⟩), (v.lo.den, ⟨decide (D < 0), us⟩), (v.hi.num, ⟨decide (N' < 0), ys⟩), (v.hi.den, ⟨decide (D' < 0), vs⟩)]) (ha : AllAr wN [(v.lo.num, ⟨decide (N < 0), xs⟩), (v.lo.den, ⟨decide (D < 0), us⟩), (v.hi.num, ⟨decide (N' < 0), ys⟩), (v.hi.den, ⟨decide (D' < 0), vs⟩)]) (h1 : Nm xs N.natAbs) (h2 : Nm us D.natAbs) (h3 : Nm ys N'.natAbs) (h4 : Nm vs D'.natAbs) : OutS w N D N' D' (.returned (.agg #[.bool v.lo.num.g, .slice v.lo.num.a v.lo.num.n v.lo.num.c, .bool v.lo.den.g, .slice v.lo.den.a v.lo.den.n v.lo.den.c, .bool v.hi.num.g, .slice v.hi.num.a v.hi.num.n v.hi.num.c, .bool v.hi.den.g, .slice v.hi.den.a v.hi.den.n v.hi.den.c])) W :=
  ⟨v, xs, us, ys, vs, rfl, bt.below hb hR hb.size, (own_fin bt ho (Nat.le_refl _)).wide (by omega) bt.size, ar_fin bt ho ha (Nat.le_refl _), h1, h2, h3, h4⟩
end Go.Proofs.Ytlmeokeanihhoaa
namespace Go.Proofs.Ytlmeokeanihhoaa
open Go.RowKit
set_option linter.unusedVariables false
set_option maxRecDepth 100000
set_option linter.unusedSimpArgs false

/-- Two variables' boxes that hold fractions. -/
structure Two4 (wk wx : World) (G1 G2 : Nat) (q1 q2 : QV) : Prop where
  lo1 : wk.heap.size ≤ G1
  lo2 : wk.heap.size ≤ G2
  ne : G1 ≠ G2
  hi1 : G1 < wx.heap.size
  hi2 : G2 < wx.heap.size
  a0 : wx.cell? ⟨G1, 0, none⟩ = some (.bool q1.num.g)
  a1 : wx.cell? ⟨G1, 1, none⟩ = some (.slice q1.num.a q1.num.n q1.num.c)
  a2 : wx.cell? ⟨G1, 2, none⟩ = some (.bool q1.den.g)
  a3 : wx.cell? ⟨G1, 3, none⟩ = some (.slice q1.den.a q1.den.n q1.den.c)
  b0 : wx.cell? ⟨G2, 0, none⟩ = some (.bool q2.num.g)
  b1 : wx.cell? ⟨G2, 1, none⟩ = some (.slice q2.num.a q2.num.n q2.num.c)
  b2 : wx.cell? ⟨G2, 2, none⟩ = some (.bool q2.den.g)
  b3 : wx.cell? ⟨G2, 3, none⟩ = some (.slice q2.den.a q2.den.n q2.den.c)
  f1 : ∀ o, wx.frozen? ⟨G1, o, none⟩ = false
  f2 : ∀ o, wx.frozen? ⟨G2, o, none⟩ = false
  bel : Below wk.heap.size wk wx

end Go.Proofs.Ytlmeokeanihhoaa
namespace Go.Proofs.Ytlmeokeanihhoaa
open Go.RowKit
set_option linter.unusedVariables false
set_option maxRecDepth 100000
set_option linter.unusedSimpArgs false

def RetS (w : World) (U : SD → Bool → Prop) (e : Ending) (w' : World) : Prop := ∃ (v : SV) (d : SD) (ok : Bool), e = .returned (.tuple #[.agg #[.bool v.lo.num.g, .slice v.lo.num.a v.lo.num.n v.lo.num.c, .bool v.lo.den.g, .slice v.lo.den.a v.lo.den.n v.lo.den.c, .bool v.hi.num.g, .slice v.hi.num.a v.hi.num.n v.hi.num.c, .bool v.hi.den.g, .slice v.hi.den.a v.hi.den.n v.hi.den.c], .bool ok]) ∧ Below w.heap.size w w' ∧ AllOwn w.heap.size w'.heap.size w' [(v.lo.num, d.lo.num), (v.lo.den, d.lo.den), (v.hi.num, d.hi.num), (v.hi.den, d.hi.den)] ∧ U d ok
theorem zeroS (lo hi : Nat) (w : World) : AllOwn lo hi w [((⟨⟨⟨false, none, 0, 0⟩, ⟨false, none, 0, 0⟩⟩, ⟨⟨false, none, 0, 0⟩, ⟨false, none, 0, 0⟩⟩⟩ : SV).lo.num, (⟨⟨⟨false, []⟩, ⟨false, []⟩⟩, ⟨⟨false, []⟩, ⟨false, []⟩⟩⟩ : SD).lo.num), ((⟨⟨⟨false, none, 0, 0⟩, ⟨false, none, 0, 0⟩⟩, ⟨⟨false, none, 0, 0⟩, ⟨false, none, 0, 0⟩⟩⟩ : SV).lo.den, (⟨⟨⟨false, []⟩, ⟨false, []⟩⟩, ⟨⟨false, []⟩, ⟨false, []⟩⟩⟩ : SD).lo.den), ((⟨⟨⟨false, none, 0, 0⟩, ⟨false, none, 0, 0⟩⟩, ⟨⟨false, none, 0, 0⟩, ⟨false, none, 0, 0⟩⟩⟩ : SV).hi.num, (⟨⟨⟨false, []⟩, ⟨false, []⟩⟩, ⟨⟨false, []⟩, ⟨false, []⟩⟩⟩ : SD).hi.num), ((⟨⟨⟨false, none, 0, 0⟩, ⟨false, none, 0, 0⟩⟩, ⟨⟨false, none, 0, 0⟩, ⟨false, none, 0, 0⟩⟩⟩ : SV).hi.den, (⟨⟨⟨false, []⟩, ⟨false, []⟩⟩, ⟨⟨false, []⟩, ⟨false, []⟩⟩⟩ : SD).hi.den)] := ⟨fun p hp => by
  have hp : p = ((⟨false, none, 0, 0⟩ : BV), (⟨false, []⟩ : BD)) := by simpa using hp
  subst hp
  exact ⟨rfl, .inl rfl, rfl⟩, List.pairwise_cons.2 ⟨fun p hp => .inl rfl, List.pairwise_cons.2 ⟨fun p hp => .inl rfl, List.pairwise_cons.2 ⟨fun p hp => .inl rfl, List.pairwise_singleton _ _⟩⟩⟩⟩
def AnsS (P : Bool) (N D N' D' : Int) (d : SD) (ok : Bool) : Prop :=
  (P = true ∧ ∃ xs us ys vs, Nm xs N.natAbs ∧ Nm us D.natAbs ∧ Nm ys N'.natAbs ∧ Nm vs D'.natAbs ∧ (((xs.length ≤ 40 ∧ us.length ≤ 40) ∧ (ys.length ≤ 40 ∧ vs.length ≤ 40) ∧ ok = true ∧ d = (⟨⟨⟨decide (N < 0), xs⟩, ⟨decide (D < 0), us⟩⟩, ⟨⟨decide (N' < 0), ys⟩, ⟨decide (D' < 0), vs⟩⟩⟩ : SD)) ∨ (¬ ((xs.length ≤ 40 ∧ us.length ≤ 40) ∧ (ys.length ≤ 40 ∧ vs.length ≤ 40)) ∧ ok = false ∧ d = (⟨⟨⟨false, []⟩, ⟨false, []⟩⟩, ⟨⟨false, []⟩, ⟨false, []⟩⟩⟩ : SD)))) ∨ (P = false ∧ ok = false ∧ d = (⟨⟨⟨false, []⟩, ⟨false, []⟩⟩, ⟨⟨false, []⟩, ⟨false, []⟩⟩⟩ : SD))
theorem AnsS.same {P : Bool} {N D N' D' : Int} {d d' : SD} {ok ok' : Bool} (h : AnsS P N D N' D' d ok) (k : AnsS P N D N' D' d' ok') : d = d' ∧ ok = ok' := by
  rcases h with ⟨p, xs, us, ys, vs, h1, h2, h3, h4, h5⟩ | ⟨p, h1, h2⟩ <;> rcases k with ⟨p', xs', us', ys', vs', k1, k2, k3, k4, k5⟩ | ⟨p', k1, k2⟩
  · obtain rfl := h1.same k1
    obtain rfl := h2.same k2
    obtain rfl := h3.same k3
    obtain rfl := h4.same k4
    rcases h5 with ⟨a, b, c, e⟩ | ⟨a, c, e⟩ <;> rcases k5 with ⟨a', b', c', e'⟩ | ⟨a', c', e'⟩
    · exact ⟨e.trans e'.symm, c.trans c'.symm⟩
    · exact absurd ⟨a, b⟩ a'
    · exact absurd ⟨a', b'⟩ a
    · exact ⟨e.trans e'.symm, c.trans c'.symm⟩
  · rw [p] at p'; cases p'
  · rw [p] at p'; cases p'
  · exact ⟨h2.trans k2.symm, h1.trans k1.symm⟩
theorem AnsS.lens {P : Bool} {N D N' D' : Int} {d : SD} {ok : Bool} (h : AnsS P N D N' D' d ok) : d.lo.num.xs.length ≤ 40 ∧ d.lo.den.xs.length ≤ 40 ∧ d.hi.num.xs.length ≤ 40 ∧ d.hi.den.xs.length ≤ 40 := by
  rcases h with ⟨p, xs, us, ys, vs, h1, h2, h3, h4, ⟨a, b, c, rfl⟩ | ⟨a, c, rfl⟩⟩ | ⟨p, h1, rfl⟩
  · exact ⟨a.1, a.2, b.1, b.2⟩
  · simp
  · simp
theorem ansS_none (N D N' D' : Int) : AnsS false N D N' D' (⟨⟨⟨false, []⟩, ⟨false, []⟩⟩, ⟨⟨false, []⟩, ⟨false, []⟩⟩⟩ : SD) false := .inr ⟨rfl, rfl, rfl⟩
theorem retS_fin {w wN W : World} {R : Nat} {v : SV} {d : SD} {ok : Bool} {U : SD → Bool → Prop} (hR : w.heap.size ≤ R) (hb : Below w.heap.size w wN) (bt : But R (R + 1) wN W)
    (ho : AllOwn (R + 1) wN.heap.size wN [(v.lo.num, d.lo.num), (v.lo.den, d.lo.den), (v.hi.num, d.hi.num), (v.hi.den, d.hi.den)]) (hu : U d ok) : RetS w U (.returned (.tuple #[.agg #[.bool v.lo.num.g, .slice v.lo.num.a v.lo.num.n v.lo.num.c, .bool v.lo.den.g, .slice v.lo.den.a v.lo.den.n v.lo.den.c, .bool v.hi.num.g, .slice v.hi.num.a v.hi.num.n v.hi.num.c, .bool v.hi.den.g, .slice v.hi.den.a v.hi.den.n v.hi.den.c], .bool ok])) W :=
  ⟨v, d, ok, rfl, bt.below hb hR hb.size, (own_fin bt ho (Nat.le_refl _)).wide (by omega) bt.size, hu⟩
/-- Two answers make one. -/
theorem ansS_two {N D N' D' : Int} {d d' : QD} {ok ok' : Bool} (h : AnsQ true N D d ok) (k : AnsQ true N' D' d' ok') : AnsS true N D N' D' (if ok && ok' then ⟨d, d'⟩ else (⟨⟨⟨false, []⟩, ⟨false, []⟩⟩, ⟨⟨false, []⟩, ⟨false, []⟩⟩⟩ : SD)) (ok && ok') := by
  rcases h with ⟨_, xs, us, h1, h2, h3⟩ | ⟨p, _⟩
  · rcases k with ⟨_, ys, vs, k1, k2, k3⟩ | ⟨p, _⟩
    · refine .inl ⟨rfl, xs, us, ys, vs, h1, h2, k1, k2, ?_⟩
      rcases h3 with ⟨a, b, rfl, rfl⟩ | ⟨a, rfl, rfl⟩ <;> rcases k3 with ⟨a', b', rfl, rfl⟩ | ⟨a', rfl, rfl⟩
      · exact .inl ⟨⟨a, b⟩, ⟨a', b'⟩, rfl, rfl⟩
      · exact .inr ⟨fun h => a' h.2, rfl, rfl⟩
      · exact .inr ⟨fun h => a h.1, rfl, rfl⟩
      · exact .inr ⟨fun h => a h.1, rfl, rfl⟩
    · cases p
  · cases p

set_option maxHeartbeats 4000000 in
theorem fitsSS (v : SV) (N D N' D' : Int) (w : World) (h : IsQ w v.lo N D) (h' : IsQ w v.hi N' D') (hD : 0 < D) (hD' : 0 < D') :
    Calls Try.prog 99 #[.agg #[.bool v.lo.num.g, .slice v.lo.num.a v.lo.num.n v.lo.num.c, .bool v.lo.den.g, .slice v.lo.den.a v.lo.den.n v.lo.den.c, .bool v.hi.num.g, .slice v.hi.num.a v.hi.num.n v.hi.num.c, .bool v.hi.den.g, .slice v.hi.den.a v.hi.den.n v.hi.den.c]] w (RetS w (AnsS true N D N' D')) := by
  have H1 := hide h
  have H2 := hide h'
  have HD := hide (And.intro hD hD')
  clear h h' hD hD'
  have B0 := hide (show Below w.heap.size w ((w.alloc (.cells #[.bool v.lo.num.g, .slice v.lo.num.a v.lo.num.n v.lo.num.c, .bool v.lo.den.g, .slice v.lo.den.a v.lo.den.n v.lo.den.c, .bool v.hi.num.g, .slice v.hi.num.a v.hi.num.n v.hi.num.c, .bool v.hi.den.g, .slice v.hi.den.a v.hi.den.n v.hi.den.c] 41)).alloc (.cells #[.bool false, .slice none 0 0, .bool false, .slice none 0 0, .bool false, .slice none 0 0, .bool false, .slice none 0 0] 41)) from (((Below.refl _ _).alloc (by simp) _).alloc (by simp) _))
  go_enter Try.func99, Try.ntmps99
  go_wp2_with fail
  refine (fitsQS v.lo N D _ ((unhide H1).later (unhide B0)) (unhide HD).1).mono ?_
  rintro e w1 ⟨r1, d1, o1, rfl, hb, ov1, hu1⟩
  have s1 : w.heap.size + 1 + 1 ≤ w1.heap.size := by have := hb.size; simp at this; omega
  have U1 := hide hu1
  replace ov1 := ov1.wide (lo' := w.heap.size + 1 + 1) (by simp) (Nat.le_refl _)
  have k0_4 : w1.cell? ⟨w.heap.size, 4, none⟩ = some (.bool v.hi.num.g) := cell_later hb (by simp [go_sem])
  have k0_5 : w1.cell? ⟨w.heap.size, 5, none⟩ = some (.slice v.hi.num.a v.hi.num.n v.hi.num.c) := cell_later hb (by simp [go_sem])
  have k0_6 : w1.cell? ⟨w.heap.size, 6, none⟩ = some (.bool v.hi.den.g) := cell_later hb (by simp [go_sem])
  have k0_7 : w1.cell? ⟨w.heap.size, 7, none⟩ = some (.slice v.hi.den.a v.hi.den.n v.hi.den.c) := cell_later hb (by simp [go_sem])
  have k1_0 : w1.cell? ⟨w.heap.size + 1, 0, none⟩ = some (.bool false) := cell_later hb (by simp [go_sem])
  have k1_1 : w1.cell? ⟨w.heap.size + 1, 1, none⟩ = some (.slice none 0 0) := cell_later hb (by simp [go_sem])
  have k1_2 : w1.cell? ⟨w.heap.size + 1, 2, none⟩ = some (.bool false) := cell_later hb (by simp [go_sem])
  have k1_3 : w1.cell? ⟨w.heap.size + 1, 3, none⟩ = some (.slice none 0 0) := cell_later hb (by simp [go_sem])
  have k1_4 : w1.cell? ⟨w.heap.size + 1, 4, none⟩ = some (.bool false) := cell_later hb (by simp [go_sem])
  have k1_5 : w1.cell? ⟨w.heap.size + 1, 5, none⟩ = some (.slice none 0 0) := cell_later hb (by simp [go_sem])
  have k1_6 : w1.cell? ⟨w.heap.size + 1, 6, none⟩ = some (.bool false) := cell_later hb (by simp [go_sem])
  have k1_7 : w1.cell? ⟨w.heap.size + 1, 7, none⟩ = some (.slice none 0 0) := cell_later hb (by simp [go_sem])
  have z1 : ∀ o, w1.frozen? ⟨w.heap.size + 1, o, none⟩ = false := fun o => frozen_later hb (by simp) (by simp [go_sem])
  have OV1 := hide (ov1)
  have HB := hide (below_on (unhide B0) hb)
  clear hb
  clear ov1 hu1
  have k0_4u : (w1.alloc (.cells #[.bool r1.num.g, .slice r1.num.a r1.num.n r1.num.c, .bool r1.den.g, .slice r1.den.a r1.den.n r1.den.c] 30)).cell? ⟨w.heap.size, 4, none⟩ = some (.bool v.hi.num.g) := (ca_other k0_4)
  have k0_5u : (w1.alloc (.cells #[.bool r1.num.g, .slice r1.num.a r1.num.n r1.num.c, .bool r1.den.g, .slice r1.den.a r1.den.n r1.den.c] 30)).cell? ⟨w.heap.size, 5, none⟩ = some (.slice v.hi.num.a v.hi.num.n v.hi.num.c) := (ca_other k0_5)
  have k0_6u : (w1.alloc (.cells #[.bool r1.num.g, .slice r1.num.a r1.num.n r1.num.c, .bool r1.den.g, .slice r1.den.a r1.den.n r1.den.c] 30)).cell? ⟨w.heap.size, 6, none⟩ = some (.bool v.hi.den.g) := (ca_other k0_6)
  have k0_7u : (w1.alloc (.cells #[.bool r1.num.g, .slice r1.num.a r1.num.n r1.num.c, .bool r1.den.g, .slice r1.den.a r1.den.n r1.den.c] 30)).cell? ⟨w.heap.size, 7, none⟩ = some (.slice v.hi.den.a v.hi.den.n v.hi.den.c) := (ca_other k0_7)
  have k1_0u : (w1.alloc (.cells #[.bool r1.num.g, .slice r1.num.a r1.num.n r1.num.c, .bool r1.den.g, .slice r1.den.a r1.den.n r1.den.c] 30)).cell? ⟨w.heap.size + 1, 0, none⟩ = some (.bool false) := (ca_other k1_0)
  have k1_1u : (w1.alloc (.cells #[.bool r1.num.g, .slice r1.num.a r1.num.n r1.num.c, .bool r1.den.g, .slice r1.den.a r1.den.n r1.den.c] 30)).cell? ⟨w.heap.size + 1, 1, none⟩ = some (.slice none 0 0) := (ca_other k1_1)
  have k1_2u : (w1.alloc (.cells #[.bool r1.num.g, .slice r1.num.a r1.num.n r1.num.c, .bool r1.den.g, .slice r1.den.a r1.den.n r1.den.c] 30)).cell? ⟨w.heap.size + 1, 2, none⟩ = some (.bool false) := (ca_other k1_2)
  have k1_3u : (w1.alloc (.cells #[.bool r1.num.g, .slice r1.num.a r1.num.n r1.num.c, .bool r1.den.g, .slice r1.den.a r1.den.n r1.den.c] 30)).cell? ⟨w.heap.size + 1, 3, none⟩ = some (.slice none 0 0) := (ca_other k1_3)
  have k1_4u : (w1.alloc (.cells #[.bool r1.num.g, .slice r1.num.a r1.num.n r1.num.c, .bool r1.den.g, .slice r1.den.a r1.den.n r1.den.c] 30)).cell? ⟨w.heap.size + 1, 4, none⟩ = some (.bool false) := (ca_other k1_4)
  have k1_5u : (w1.alloc (.cells #[.bool r1.num.g, .slice r1.num.a r1.num.n r1.num.c, .bool r1.den.g, .slice r1.den.a r1.den.n r1.den.c] 30)).cell? ⟨w.heap.size + 1, 5, none⟩ = some (.slice none 0 0) := (ca_other k1_5)
  have k1_6u : (w1.alloc (.cells #[.bool r1.num.g, .slice r1.num.a r1.num.n r1.num.c, .bool r1.den.g, .slice r1.den.a r1.den.n r1.den.c] 30)).cell? ⟨w.heap.size + 1, 6, none⟩ = some (.bool false) := (ca_other k1_6)
  have k1_7u : (w1.alloc (.cells #[.bool r1.num.g, .slice r1.num.a r1.num.n r1.num.c, .bool r1.den.g, .slice r1.den.a r1.den.n r1.den.c] 30)).cell? ⟨w.heap.size + 1, 7, none⟩ = some (.slice none 0 0) := (ca_other k1_7)
  go_wp2_with fail
  refine (fitsQS v.hi N' D' _ ((unhide H2).later (below_on (unhide HB) ((Below.refl _ _).alloc (by simp) _))) (unhide HD).2).mono ?_
  rintro e w2 ⟨r2, d2, o2, rfl, hb, ov2, hu2⟩
  clear k0_4u k0_5u k0_6u k0_7u k1_0u k1_1u k1_2u k1_3u k1_4u k1_5u k1_6u k1_7u
  have s2 : w1.heap.size ≤ w2.heap.size := by have := hb.size; simp at this; omega
  have U2 := hide hu2
  replace ov2 := ov2.wide (lo' := w1.heap.size) (by simp) (Nat.le_refl _)
  have hbx := ba (hb)
  replace z1 := fun o => frozen_later hbx (World.block_lt_of_cell? _ _ k1_0) (z1 o)
  replace k1_0 := cell_later hbx k1_0
  replace k1_1 := cell_later hbx k1_1
  replace k1_2 := cell_later hbx k1_2
  replace k1_3 := cell_later hbx k1_3
  replace k1_4 := cell_later hbx k1_4
  replace k1_5 := cell_later hbx k1_5
  replace k1_6 := cell_later hbx k1_6
  replace k1_7 := cell_later hbx k1_7
  have k2_0 : w2.cell? ⟨w1.heap.size, 0, none⟩ = some (.bool r1.num.g) := cell_later hb (by simp [go_sem])
  have k2_1 : w2.cell? ⟨w1.heap.size, 1, none⟩ = some (.slice r1.num.a r1.num.n r1.num.c) := cell_later hb (by simp [go_sem])
  have k2_2 : w2.cell? ⟨w1.heap.size, 2, none⟩ = some (.bool r1.den.g) := cell_later hb (by simp [go_sem])
  have k2_3 : w2.cell? ⟨w1.heap.size, 3, none⟩ = some (.slice r1.den.a r1.den.n r1.den.c) := cell_later hb (by simp [go_sem])
  clear k0_4 k0_5 k0_6 k0_7
  replace OV1 := hide ((unhide OV1).later hbx)
  have OV2 := hide (ov2)
  replace HB := hide (below_on (unhide HB) hbx)
  clear hbx hb
  clear ov2 hu2
  cases o1
  · cases o2
    · go_upto_region 4 with fail
      have hb : Below w2.heap.size w2 (w2.alloc (.cells #[.bool r2.num.g, .slice r2.num.a r2.num.n r2.num.c, .bool r2.den.g, .slice r2.den.a r2.den.n r2.den.c] 30)) := ((Below.refl _ _).alloc (by simp) _)
      replace k1_0 : (w2.alloc (.cells #[.bool r2.num.g, .slice r2.num.a r2.num.n r2.num.c, .bool r2.den.g, .slice r2.den.a r2.den.n r2.den.c] 30)).cell? ⟨w.heap.size + 1, 0, none⟩ = some (.bool false) := (ca_other k1_0)
      replace k1_1 : (w2.alloc (.cells #[.bool r2.num.g, .slice r2.num.a r2.num.n r2.num.c, .bool r2.den.g, .slice r2.den.a r2.den.n r2.den.c] 30)).cell? ⟨w.heap.size + 1, 1, none⟩ = some (.slice none 0 0) := (ca_other k1_1)
      replace k1_2 : (w2.alloc (.cells #[.bool r2.num.g, .slice r2.num.a r2.num.n r2.num.c, .bool r2.den.g, .slice r2.den.a r2.den.n r2.den.c] 30)).cell? ⟨w.heap.size + 1, 2, none⟩ = some (.bool false) := (ca_other k1_2)
      replace k1_3 : (w2.alloc (.cells #[.bool r2.num.g, .slice r2.num.a r2.num.n r2.num.c, .bool r2.den.g, .slice r2.den.a r2.den.n r2.den.c] 30)).cell? ⟨w.heap.size + 1, 3, none⟩ = some (.slice none 0 0) := (ca_other k1_3)
      replace k1_4 : (w2.alloc (.cells #[.bool r2.num.g, .slice r2.num.a r2.num.n r2.num.c, .bool r2.den.g, .slice r2.den.a r2.den.n r2.den.c] 30)).cell? ⟨w.heap.size + 1, 4, none⟩ = some (.bool false) := (ca_other k1_4)
      replace k1_5 : (w2.alloc (.cells #[.bool r2.num.g, .slice r2.num.a r2.num.n r2.num.c, .bool r2.den.g, .slice r2.den.a r2.den.n r2.den.c] 30)).cell? ⟨w.heap.size + 1, 5, none⟩ = some (.slice none 0 0) := (ca_other k1_5)
      replace k1_6 : (w2.alloc (.cells #[.bool r2.num.g, .slice r2.num.a r2.num.n r2.num.c, .bool r2.den.g, .slice r2.den.a r2.den.n r2.den.c] 30)).cell? ⟨w.heap.size + 1, 6, none⟩ = some (.bool false) := (ca_other k1_6)
      replace k1_7 : (w2.alloc (.cells #[.bool r2.num.g, .slice r2.num.a r2.num.n r2.num.c, .bool r2.den.g, .slice r2.den.a r2.den.n r2.den.c] 30)).cell? ⟨w.heap.size + 1, 7, none⟩ = some (.slice none 0 0) := (ca_other k1_7)
      replace z1 : ∀ o, (w2.alloc (.cells #[.bool r2.num.g, .slice r2.num.a r2.num.n r2.num.c, .bool r2.den.g, .slice r2.den.a r2.den.n r2.den.c] 30)).frozen? ⟨w.heap.size + 1, o, none⟩ = false := fun o => frozen_later hb (by omega) (z1 o)
      clear k2_0 k2_1 k2_2 k2_3
      replace OV1 := hide ((unhide OV1).later hb)
      replace OV2 := hide ((unhide OV2).later hb)
      replace HB := hide (below_on (unhide HB) hb)
      have szw3 := hb.size
      clear hb
      generalize (w2.alloc (.cells #[.bool r2.num.g, .slice r2.num.a r2.num.n r2.num.c, .bool r2.den.g, .slice r2.den.a r2.den.n r2.den.c] 30)) = w3 at *
      have UU := hide (ansS_two (unhide U1) (unhide U2))
      go_wp2
      refine bodyPost_ret (v := .tuple #[.agg #[.bool false, .slice none 0 0, .bool false, .slice none 0 0, .bool false, .slice none 0 0, .bool false, .slice none 0 0], .bool false]) (by simp [results, Try.results99, go_sem, k1_0, k1_1, k1_2, k1_3, k1_4, k1_5, k1_6, k1_7]) rfl ?_
      exact retS_fin (v := (⟨⟨⟨false, none, 0, 0⟩, ⟨false, none, 0, 0⟩⟩, ⟨⟨false, none, 0, 0⟩, ⟨false, none, 0, 0⟩⟩⟩ : SV)) (d := (⟨⟨⟨false, []⟩, ⟨false, []⟩⟩, ⟨⟨false, []⟩, ⟨false, []⟩⟩⟩ : SD)) (R := w.heap.size + 1) (by omega) (unhide HB) (metS_but (w5 := w3) (v := (⟨⟨⟨false, none, 0, 0⟩, ⟨false, none, 0, 0⟩⟩, ⟨⟨false, none, 0, 0⟩, ⟨false, none, 0, 0⟩⟩⟩ : SV)) (G := w.heap.size + 1)) (zeroS _ _ _) (unhide UU)
    · go_upto_region 4 with fail
      have hb : Below w2.heap.size w2 (w2.alloc (.cells #[.bool r2.num.g, .slice r2.num.a r2.num.n r2.num.c, .bool r2.den.g, .slice r2.den.a r2.den.n r2.den.c] 30)) := ((Below.refl _ _).alloc (by simp) _)
      replace k1_0 : (w2.alloc (.cells #[.bool r2.num.g, .slice r2.num.a r2.num.n r2.num.c, .bool r2.den.g, .slice r2.den.a r2.den.n r2.den.c] 30)).cell? ⟨w.heap.size + 1, 0, none⟩ = some (.bool false) := (ca_other k1_0)
      replace k1_1 : (w2.alloc (.cells #[.bool r2.num.g, .slice r2.num.a r2.num.n r2.num.c, .bool r2.den.g, .slice r2.den.a r2.den.n r2.den.c] 30)).cell? ⟨w.heap.size + 1, 1, none⟩ = some (.slice none 0 0) := (ca_other k1_1)
      replace k1_2 : (w2.alloc (.cells #[.bool r2.num.g, .slice r2.num.a r2.num.n r2.num.c, .bool r2.den.g, .slice r2.den.a r2.den.n r2.den.c] 30)).cell? ⟨w.heap.size + 1, 2, none⟩ = some (.bool false) := (ca_other k1_2)
      replace k1_3 : (w2.alloc (.cells #[.bool r2.num.g, .slice r2.num.a r2.num.n r2.num.c, .bool r2.den.g, .slice r2.den.a r2.den.n r2.den.c] 30)).cell? ⟨w.heap.size + 1, 3, none⟩ = some (.slice none 0 0) := (ca_other k1_3)
      replace k1_4 : (w2.alloc (.cells #[.bool r2.num.g, .slice r2.num.a r2.num.n r2.num.c, .bool r2.den.g, .slice r2.den.a r2.den.n r2.den.c] 30)).cell? ⟨w.heap.size + 1, 4, none⟩ = some (.bool false) := (ca_other k1_4)
      replace k1_5 : (w2.alloc (.cells #[.bool r2.num.g, .slice r2.num.a r2.num.n r2.num.c, .bool r2.den.g, .slice r2.den.a r2.den.n r2.den.c] 30)).cell? ⟨w.heap.size + 1, 5, none⟩ = some (.slice none 0 0) := (ca_other k1_5)
      replace k1_6 : (w2.alloc (.cells #[.bool r2.num.g, .slice r2.num.a r2.num.n r2.num.c, .bool r2.den.g, .slice r2.den.a r2.den.n r2.den.c] 30)).cell? ⟨w.heap.size + 1, 6, none⟩ = some (.bool false) := (ca_other k1_6)
      replace k1_7 : (w2.alloc (.cells #[.bool r2.num.g, .slice r2.num.a r2.num.n r2.num.c, .bool r2.den.g, .slice r2.den.a r2.den.n r2.den.c] 30)).cell? ⟨w.heap.size + 1, 7, none⟩ = some (.slice none 0 0) := (ca_other k1_7)
      replace z1 : ∀ o, (w2.alloc (.cells #[.bool r2.num.g, .slice r2.num.a r2.num.n r2.num.c, .bool r2.den.g, .slice r2.den.a r2.den.n r2.den.c] 30)).frozen? ⟨w.heap.size + 1, o, none⟩ = false := fun o => frozen_later hb (by omega) (z1 o)
      clear k2_0 k2_1 k2_2 k2_3
      replace OV1 := hide ((unhide OV1).later hb)
      replace OV2 := hide ((unhide OV2).later hb)
      replace HB := hide (below_on (unhide HB) hb)
      have szw3 := hb.size
      clear hb
      generalize (w2.alloc (.cells #[.bool r2.num.g, .slice r2.num.a r2.num.n r2.num.c, .bool r2.den.g, .slice r2.den.a r2.den.n r2.den.c] 30)) = w3 at *
      have UU := hide (ansS_two (unhide U1) (unhide U2))
      go_wp2
      refine bodyPost_ret (v := .tuple #[.agg #[.bool false, .slice none 0 0, .bool false, .slice none 0 0, .bool false, .slice none 0 0, .bool false, .slice none 0 0], .bool false]) (by simp [results, Try.results99, go_sem, k1_0, k1_1, k1_2, k1_3, k1_4, k1_5, k1_6, k1_7]) rfl ?_
      exact retS_fin (v := (⟨⟨⟨false, none, 0, 0⟩, ⟨false, none, 0, 0⟩⟩, ⟨⟨false, none, 0, 0⟩, ⟨false, none, 0, 0⟩⟩⟩ : SV)) (d := (⟨⟨⟨false, []⟩, ⟨false, []⟩⟩, ⟨⟨false, []⟩, ⟨false, []⟩⟩⟩ : SD)) (R := w.heap.size + 1) (by omega) (unhide HB) (metS_but (w5 := w3) (v := (⟨⟨⟨false, none, 0, 0⟩, ⟨false, none, 0, 0⟩⟩, ⟨⟨false, none, 0, 0⟩, ⟨false, none, 0, 0⟩⟩⟩ : SV)) (G := w.heap.size + 1)) (zeroS _ _ _) (unhide UU)
  · cases o2
    · go_upto_region 4 with fail
      have hb : Below w2.heap.size w2 (w2.alloc (.cells #[.bool r2.num.g, .slice r2.num.a r2.num.n r2.num.c, .bool r2.den.g, .slice r2.den.a r2.den.n r2.den.c] 30)) := ((Below.refl _ _).alloc (by simp) _)
      replace k1_0 : (w2.alloc (.cells #[.bool r2.num.g, .slice r2.num.a r2.num.n r2.num.c, .bool r2.den.g, .slice r2.den.a r2.den.n r2.den.c] 30)).cell? ⟨w.heap.size + 1, 0, none⟩ = some (.bool false) := (ca_other k1_0)
      replace k1_1 : (w2.alloc (.cells #[.bool r2.num.g, .slice r2.num.a r2.num.n r2.num.c, .bool r2.den.g, .slice r2.den.a r2.den.n r2.den.c] 30)).cell? ⟨w.heap.size + 1, 1, none⟩ = some (.slice none 0 0) := (ca_other k1_1)
      replace k1_2 : (w2.alloc (.cells #[.bool r2.num.g, .slice r2.num.a r2.num.n r2.num.c, .bool r2.den.g, .slice r2.den.a r2.den.n r2.den.c] 30)).cell? ⟨w.heap.size + 1, 2, none⟩ = some (.bool false) := (ca_other k1_2)
      replace k1_3 : (w2.alloc (.cells #[.bool r2.num.g, .slice r2.num.a r2.num.n r2.num.c, .bool r2.den.g, .slice r2.den.a r2.den.n r2.den.c] 30)).cell? ⟨w.heap.size + 1, 3, none⟩ = some (.slice none 0 0) := (ca_other k1_3)
      replace k1_4 : (w2.alloc (.cells #[.bool r2.num.g, .slice r2.num.a r2.num.n r2.num.c, .bool r2.den.g, .slice r2.den.a r2.den.n r2.den.c] 30)).cell? ⟨w.heap.size + 1, 4, none⟩ = some (.bool false) := (ca_other k1_4)
      replace k1_5 : (w2.alloc (.cells #[.bool r2.num.g, .slice r2.num.a r2.num.n r2.num.c, .bool r2.den.g, .slice r2.den.a r2.den.n r2.den.c] 30)).cell? ⟨w.heap.size + 1, 5, none⟩ = some (.slice none 0 0) := (ca_other k1_5)
      replace k1_6 : (w2.alloc (.cells #[.bool r2.num.g, .slice r2.num.a r2.num.n r2.num.c, .bool r2.den.g, .slice r2.den.a r2.den.n r2.den.c] 30)).cell? ⟨w.heap.size + 1, 6, none⟩ = some (.bool false) := (ca_other k1_6)
      replace k1_7 : (w2.alloc (.cells #[.bool r2.num.g, .slice r2.num.a r2.num.n r2.num.c, .bool r2.den.g, .slice r2.den.a r2.den.n r2.den.c] 30)).cell? ⟨w.heap.size + 1, 7, none⟩ = some (.slice none 0 0) := (ca_other k1_7)
      replace z1 : ∀ o, (w2.alloc (.cells #[.bool r2.num.g, .slice r2.num.a r2.num.n r2.num.c, .bool r2.den.g, .slice r2.den.a r2.den.n r2.den.c] 30)).frozen? ⟨w.heap.size + 1, o, none⟩ = false := fun o => frozen_later hb (by omega) (z1 o)
      clear k2_0 k2_1 k2_2 k2_3
      replace OV1 := hide ((unhide OV1).later hb)
      replace OV2 := hide ((unhide OV2).later hb)
      replace HB := hide (below_on (unhide HB) hb)
      have szw3 := hb.size
      clear hb
      generalize (w2.alloc (.cells #[.bool r2.num.g, .slice r2.num.a r2.num.n r2.num.c, .bool r2.den.g, .slice r2.den.a r2.den.n r2.den.c] 30)) = w3 at *
      have UU := hide (ansS_two (unhide U1) (unhide U2))
      go_wp2
      refine bodyPost_ret (v := .tuple #[.agg #[.bool false, .slice none 0 0, .bool false, .slice none 0 0, .bool false, .slice none 0 0, .bool false, .slice none 0 0], .bool false]) (by simp [results, Try.results99, go_sem, k1_0, k1_1, k1_2, k1_3, k1_4, k1_5, k1_6, k1_7]) rfl ?_
      exact retS_fin (v := (⟨⟨⟨false, none, 0, 0⟩, ⟨false, none, 0, 0⟩⟩, ⟨⟨false, none, 0, 0⟩, ⟨false, none, 0, 0⟩⟩⟩ : SV)) (d := (⟨⟨⟨false, []⟩, ⟨false, []⟩⟩, ⟨⟨false, []⟩, ⟨false, []⟩⟩⟩ : SD)) (R := w.heap.size + 1) (by omega) (unhide HB) (metS_but (w5 := w3) (v := (⟨⟨⟨false, none, 0, 0⟩, ⟨false, none, 0, 0⟩⟩, ⟨⟨false, none, 0, 0⟩, ⟨false, none, 0, 0⟩⟩⟩ : SV)) (G := w.heap.size + 1)) (zeroS _ _ _) (unhide UU)
    · go_upto_region 5 with fail
      have hb : Below w2.heap.size w2 (w2.alloc (.cells #[.bool r2.num.g, .slice r2.num.a r2.num.n r2.num.c, .bool r2.den.g, .slice r2.den.a r2.den.n r2.den.c] 30)) := ((Below.refl _ _).alloc (by simp) _)
      replace k2_0 : (w2.alloc (.cells #[.bool r2.num.g, .slice r2.num.a r2.num.n r2.num.c, .bool r2.den.g, .slice r2.den.a r2.den.n r2.den.c] 30)).cell? ⟨w1.heap.size, 0, none⟩ = some (.bool r1.num.g) := (ca_other k2_0)
      replace k2_1 : (w2.alloc (.cells #[.bool r2.num.g, .slice r2.num.a r2.num.n r2.num.c, .bool r2.den.g, .slice r2.den.a r2.den.n r2.den.c] 30)).cell? ⟨w1.heap.size, 1, none⟩ = some (.slice r1.num.a r1.num.n r1.num.c) := (ca_other k2_1)
      replace k2_2 : (w2.alloc (.cells #[.bool r2.num.g, .slice r2.num.a r2.num.n r2.num.c, .bool r2.den.g, .slice r2.den.a r2.den.n r2.den.c] 30)).cell? ⟨w1.heap.size, 2, none⟩ = some (.bool r1.den.g) := (ca_other k2_2)
      replace k2_3 : (w2.alloc (.cells #[.bool r2.num.g, .slice r2.num.a r2.num.n r2.num.c, .bool r2.den.g, .slice r2.den.a r2.den.n r2.den.c] 30)).cell? ⟨w1.heap.size, 3, none⟩ = some (.slice r1.den.a r1.den.n r1.den.c) := (ca_other k2_3)
      have k3_0 : (w2.alloc (.cells #[.bool r2.num.g, .slice r2.num.a r2.num.n r2.num.c, .bool r2.den.g, .slice r2.den.a r2.den.n r2.den.c] 30)).cell? ⟨w2.heap.size, 0, none⟩ = some (.bool r2.num.g) := by simp [go_sem]
      have k3_1 : (w2.alloc (.cells #[.bool r2.num.g, .slice r2.num.a r2.num.n r2.num.c, .bool r2.den.g, .slice r2.den.a r2.den.n r2.den.c] 30)).cell? ⟨w2.heap.size, 1, none⟩ = some (.slice r2.num.a r2.num.n r2.num.c) := by simp [go_sem]
      have k3_2 : (w2.alloc (.cells #[.bool r2.num.g, .slice r2.num.a r2.num.n r2.num.c, .bool r2.den.g, .slice r2.den.a r2.den.n r2.den.c] 30)).cell? ⟨w2.heap.size, 2, none⟩ = some (.bool r2.den.g) := by simp [go_sem]
      have k3_3 : (w2.alloc (.cells #[.bool r2.num.g, .slice r2.num.a r2.num.n r2.num.c, .bool r2.den.g, .slice r2.den.a r2.den.n r2.den.c] 30)).cell? ⟨w2.heap.size, 3, none⟩ = some (.slice r2.den.a r2.den.n r2.den.c) := by simp [go_sem]
      replace k1_0 : (w2.alloc (.cells #[.bool r2.num.g, .slice r2.num.a r2.num.n r2.num.c, .bool r2.den.g, .slice r2.den.a r2.den.n r2.den.c] 30)).cell? ⟨w.heap.size + 1, 0, none⟩ = some (.bool false) := (ca_other k1_0)
      replace k1_1 : (w2.alloc (.cells #[.bool r2.num.g, .slice r2.num.a r2.num.n r2.num.c, .bool r2.den.g, .slice r2.den.a r2.den.n r2.den.c] 30)).cell? ⟨w.heap.size + 1, 1, none⟩ = some (.slice none 0 0) := (ca_other k1_1)
      replace k1_2 : (w2.alloc (.cells #[.bool r2.num.g, .slice r2.num.a r2.num.n r2.num.c, .bool r2.den.g, .slice r2.den.a r2.den.n r2.den.c] 30)).cell? ⟨w.heap.size + 1, 2, none⟩ = some (.bool false) := (ca_other k1_2)
      replace k1_3 : (w2.alloc (.cells #[.bool r2.num.g, .slice r2.num.a r2.num.n r2.num.c, .bool r2.den.g, .slice r2.den.a r2.den.n r2.den.c] 30)).cell? ⟨w.heap.size + 1, 3, none⟩ = some (.slice none 0 0) := (ca_other k1_3)
      replace k1_4 : (w2.alloc (.cells #[.bool r2.num.g, .slice r2.num.a r2.num.n r2.num.c, .bool r2.den.g, .slice r2.den.a r2.den.n r2.den.c] 30)).cell? ⟨w.heap.size + 1, 4, none⟩ = some (.bool false) := (ca_other k1_4)
      replace k1_5 : (w2.alloc (.cells #[.bool r2.num.g, .slice r2.num.a r2.num.n r2.num.c, .bool r2.den.g, .slice r2.den.a r2.den.n r2.den.c] 30)).cell? ⟨w.heap.size + 1, 5, none⟩ = some (.slice none 0 0) := (ca_other k1_5)
      replace k1_6 : (w2.alloc (.cells #[.bool r2.num.g, .slice r2.num.a r2.num.n r2.num.c, .bool r2.den.g, .slice r2.den.a r2.den.n r2.den.c] 30)).cell? ⟨w.heap.size + 1, 6, none⟩ = some (.bool false) := (ca_other k1_6)
      replace k1_7 : (w2.alloc (.cells #[.bool r2.num.g, .slice r2.num.a r2.num.n r2.num.c, .bool r2.den.g, .slice r2.den.a r2.den.n r2.den.c] 30)).cell? ⟨w.heap.size + 1, 7, none⟩ = some (.slice none 0 0) := (ca_other k1_7)
      replace z1 : ∀ o, (w2.alloc (.cells #[.bool r2.num.g, .slice r2.num.a r2.num.n r2.num.c, .bool r2.den.g, .slice r2.den.a r2.den.n r2.den.c] 30)).frozen? ⟨w.heap.size + 1, o, none⟩ = false := fun o => frozen_later hb (by omega) (z1 o)
      replace OV1 := hide ((unhide OV1).later hb)
      replace OV2 := hide ((unhide OV2).later hb)
      replace HB := hide (below_on (unhide HB) hb)
      have szw3 := hb.size
      clear hb
      generalize (w2.alloc (.cells #[.bool r2.num.g, .slice r2.num.a r2.num.n r2.num.c, .bool r2.den.g, .slice r2.den.a r2.den.n r2.den.c] 30)) = w3 at *
      have OO := hide (((unhide OV1).join (unhide OV2) s1 s2).wide (Nat.le_refl _) (hi' := w3.heap.size) (by omega))
      have UU := hide (ansS_two (unhide U1) (unhide U2))
      go_wp2
      refine bodyPost_ret (v := .tuple #[.agg #[.bool r1.num.g, .slice r1.num.a r1.num.n r1.num.c, .bool r1.den.g, .slice r1.den.a r1.den.n r1.den.c, .bool r2.num.g, .slice r2.num.a r2.num.n r2.num.c, .bool r2.den.g, .slice r2.den.a r2.den.n r2.den.c], .bool true]) (by simp [results, Try.results99, go_sem, k1_0, k1_1, k1_2, k1_3, k1_4, k1_5, k1_6, k1_7]) rfl ?_
      exact retS_fin (v := ⟨r1, r2⟩) (d := ⟨d1, d2⟩) (R := w.heap.size + 1) (by omega) (unhide HB) (metS_but (w5 := w3) (v := ⟨r1, r2⟩) (G := w.heap.size + 1)) (unhide OO) (unhide UU)

end Go.Proofs.Ytlmeokeanihhoaa
namespace Go.Proofs.Ytlmeokeanihhoaa
open Go.RowKit
set_option linter.unusedVariables false
set_option maxRecDepth 100000
set_option linter.unusedSimpArgs false

/-- A fraction's value and what it reads as. -/
structure RQ where
  q : QV
  N : Int
  D : Int
structure RQ.Is (w : World) (x : RQ) : Prop where
  is : IsQ w x.q x.N x.D
  kn : Bd x.N 200000
  kd : Bd x.D 200000
theorem cmpZ_lt1 {A B : Int} (h : A < B) : decide (cmpZ A B < 0) = true := by unfold cmpZ; rw [if_pos h]; rfl
theorem cmpZ_lt0 {A B : Int} (h : ¬ A < B) : decide (cmpZ A B < 0) = false := by unfold cmpZ; rw [if_neg h]; split <;> rfl
theorem cmpZ_gt1 {A B : Int} (h : B < A) : decide (0 < cmpZ A B) = true := by unfold cmpZ; rw [if_neg (by omega), if_pos h]; rfl
theorem cmpZ_gt0 {A B : Int} (h : ¬ B < A) : decide (0 < cmpZ A B) = false := by unfold cmpZ; rw [if_neg h]; split <;> rfl
def stLo (s a : RQ) : RQ := if a.N * s.D < s.N * a.D then a else s
def stHi (s a : RQ) : RQ := if s.N * a.D < a.N * s.D then a else s
/-- A slice of fractions. -/
structure Rats (w : World) (b off : Nat) (l : List RQ) : Prop where
  at_ : ∀ i (h : i < l.length), w.cell? ⟨b, off + i * 4 + 0, none⟩ = some (.bool l[i].q.num.g) ∧ w.cell? ⟨b, off + i * 4 + 1, none⟩ = some (.slice l[i].q.num.a l[i].q.num.n l[i].q.num.c) ∧ w.cell? ⟨b, off + i * 4 + 2, none⟩ = some (.bool l[i].q.den.g) ∧ w.cell? ⟨b, off + i * 4 + 3, none⟩ = some (.slice l[i].q.den.a l[i].q.den.n l[i].q.den.c)
  is : ∀ i (h : i < l.length), RQ.Is w l[i]
  lt : b < w.heap.size
/-- The boxes of the least and the greatest so far. -/
structure Lst (w wr : World) (G1 G2 : Nat) (q1 q2 : QV) : Prop where
  a0 : wr.cell? ⟨G1, 0, none⟩ = some (.bool q1.num.g)
  a1 : wr.cell? ⟨G1, 1, none⟩ = some (.slice q1.num.a q1.num.n q1.num.c)
  a2 : wr.cell? ⟨G1, 2, none⟩ = some (.bool q1.den.g)
  a3 : wr.cell? ⟨G1, 3, none⟩ = some (.slice q1.den.a q1.den.n q1.den.c)
  b0 : wr.cell? ⟨G2, 0, none⟩ = some (.bool q2.num.g)
  b1 : wr.cell? ⟨G2, 1, none⟩ = some (.slice q2.num.a q2.num.n q2.num.c)
  b2 : wr.cell? ⟨G2, 2, none⟩ = some (.bool q2.den.g)
  b3 : wr.cell? ⟨G2, 3, none⟩ = some (.slice q2.den.a q2.den.n q2.den.c)
  f1 : ∀ o, wr.frozen? ⟨G1, o, none⟩ = false
  f2 : ∀ o, wr.frozen? ⟨G2, o, none⟩ = false
  r0 : wr.cell? ⟨w.heap.size + 1, 0, none⟩ = some (.bool false)
  r1 : wr.cell? ⟨w.heap.size + 1, 1, none⟩ = some (.slice none 0 0)
  r2 : wr.cell? ⟨w.heap.size + 1, 2, none⟩ = some (.bool false)
  r3 : wr.cell? ⟨w.heap.size + 1, 3, none⟩ = some (.slice none 0 0)
  r4 : wr.cell? ⟨w.heap.size + 1, 4, none⟩ = some (.bool false)
  r5 : wr.cell? ⟨w.heap.size + 1, 5, none⟩ = some (.slice none 0 0)
  r6 : wr.cell? ⟨w.heap.size + 1, 6, none⟩ = some (.bool false)
  r7 : wr.cell? ⟨w.heap.size + 1, 7, none⟩ = some (.slice none 0 0)
  fr : ∀ o, wr.frozen? ⟨w.heap.size + 1, o, none⟩ = false
  bel : Below w.heap.size w wr
theorem Lst.later {w wr wy : World} {G1 G2 : Nat} {q1 q2 : QV} (h : Lst w wr G1 G2 q1 q2) (hb : Below wr.heap.size wr wy) : Lst w wy G1 G2 q1 q2 :=
  ⟨cell_later hb h.a0, cell_later hb h.a1, cell_later hb h.a2, cell_later hb h.a3, cell_later hb h.b0, cell_later hb h.b1, cell_later hb h.b2, cell_later hb h.b3, fun o => frozen_later hb (World.block_lt_of_cell? _ _ h.a0) (h.f1 o), fun o => frozen_later hb (World.block_lt_of_cell? _ _ h.b0) (h.f2 o), cell_later hb h.r0, cell_later hb h.r1, cell_later hb h.r2, cell_later hb h.r3, cell_later hb h.r4, cell_later hb h.r5, cell_later hb h.r6, cell_later hb h.r7, fun o => frozen_later hb (World.block_lt_of_cell? _ _ h.r0) (h.fr o), below_on h.bel hb⟩
theorem Lst.set1 {w wr : World} {G1 G2 : Nat} {q1 q2 q : QV} (h : Lst w wr G1 G2 q1 q2) (hne : G1 ≠ G2) (g1 : w.heap.size + 1 < G1) (g2 : w.heap.size + 1 < G2) : Lst w ((((wr.setCell ⟨G1, 0, none⟩ (.bool q.num.g)).setCell ⟨G1, 1, none⟩ (.slice q.num.a q.num.n q.num.c)).setCell ⟨G1, 2, none⟩ (.bool q.den.g)).setCell ⟨G1, 3, none⟩ (.slice q.den.a q.den.n q.den.c)) G1 G2 q q2 :=
  ⟨by simp [go_sem, h.a0, h.a1, h.a2, h.a3], by simp [go_sem, h.a0, h.a1, h.a2, h.a3], by simp [go_sem, h.a0, h.a1, h.a2, h.a3], by simp [go_sem, h.a0, h.a1, h.a2, h.a3], cs_other (cs_other (cs_other (cs_other h.b0 (fun e => hne e.symm)) (fun e => hne e.symm)) (fun e => hne e.symm)) (fun e => hne e.symm), cs_other (cs_other (cs_other (cs_other h.b1 (fun e => hne e.symm)) (fun e => hne e.symm)) (fun e => hne e.symm)) (fun e => hne e.symm), cs_other (cs_other (cs_other (cs_other h.b2 (fun e => hne e.symm)) (fun e => hne e.symm)) (fun e => hne e.symm)) (fun e => hne e.symm), cs_other (cs_other (cs_other (cs_other h.b3 (fun e => hne e.symm)) (fun e => hne e.symm)) (fun e => hne e.symm)) (fun e => hne e.symm), fun o => by simp [go_sem, h.f1 o], fun o => by simp [go_sem, h.f2 o], cs_other (cs_other (cs_other (cs_other h.r0 (by omega)) (by omega)) (by omega)) (by omega), cs_other (cs_other (cs_other (cs_other h.r1 (by omega)) (by omega)) (by omega)) (by omega), cs_other (cs_other (cs_other (cs_other h.r2 (by omega)) (by omega)) (by omega)) (by omega), cs_other (cs_other (cs_other (cs_other h.r3 (by omega)) (by omega)) (by omega)) (by omega), cs_other (cs_other (cs_other (cs_other h.r4 (by omega)) (by omega)) (by omega)) (by omega), cs_other (cs_other (cs_other (cs_other h.r5 (by omega)) (by omega)) (by omega)) (by omega), cs_other (cs_other (cs_other (cs_other h.r6 (by omega)) (by omega)) (by omega)) (by omega), cs_other (cs_other (cs_other (cs_other h.r7 (by omega)) (by omega)) (by omega)) (by omega), fun o => by simp [go_sem, h.fr o], ((((h.bel.setCell (by show w.heap.size ≤ G1; omega) _).setCell (by show w.heap.size ≤ G1; omega) _).setCell (by show w.heap.size ≤ G1; omega) _).setCell (by show w.heap.size ≤ G1; omega) _)⟩
theorem Lst.set2 {w wr : World} {G1 G2 : Nat} {q1 q2 q : QV} (h : Lst w wr G1 G2 q1 q2) (hne : G1 ≠ G2) (g1 : w.heap.size + 1 < G1) (g2 : w.heap.size + 1 < G2) : Lst w ((((wr.setCell ⟨G2, 0, none⟩ (.bool q.num.g)).setCell ⟨G2, 1, none⟩ (.slice q.num.a q.num.n q.num.c)).setCell ⟨G2, 2, none⟩ (.bool q.den.g)).setCell ⟨G2, 3, none⟩ (.slice q.den.a q.den.n q.den.c)) G1 G2 q1 q :=
  ⟨cs_other (cs_other (cs_other (cs_other h.a0 (fun e => hne e)) (fun e => hne e)) (fun e => hne e)) (fun e => hne e), cs_other (cs_other (cs_other (cs_other h.a1 (fun e => hne e)) (fun e => hne e)) (fun e => hne e)) (fun e => hne e), cs_other (cs_other (cs_other (cs_other h.a2 (fun e => hne e)) (fun e => hne e)) (fun e => hne e)) (fun e => hne e), cs_other (cs_other (cs_other (cs_other h.a3 (fun e => hne e)) (fun e => hne e)) (fun e => hne e)) (fun e => hne e), by simp [go_sem, h.b0, h.b1, h.b2, h.b3], by simp [go_sem, h.b0, h.b1, h.b2, h.b3], by simp [go_sem, h.b0, h.b1, h.b2, h.b3], by simp [go_sem, h.b0, h.b1, h.b2, h.b3], fun o => by simp [go_sem, h.f1 o], fun o => by simp [go_sem, h.f2 o], cs_other (cs_other (cs_other (cs_other h.r0 (by omega)) (by omega)) (by omega)) (by omega), cs_other (cs_other (cs_other (cs_other h.r1 (by omega)) (by omega)) (by omega)) (by omega), cs_other (cs_other (cs_other (cs_other h.r2 (by omega)) (by omega)) (by omega)) (by omega), cs_other (cs_other (cs_other (cs_other h.r3 (by omega)) (by omega)) (by omega)) (by omega), cs_other (cs_other (cs_other (cs_other h.r4 (by omega)) (by omega)) (by omega)) (by omega), cs_other (cs_other (cs_other (cs_other h.r5 (by omega)) (by omega)) (by omega)) (by omega), cs_other (cs_other (cs_other (cs_other h.r6 (by omega)) (by omega)) (by omega)) (by omega), cs_other (cs_other (cs_other (cs_other h.r7 (by omega)) (by omega)) (by omega)) (by omega), fun o => by simp [go_sem, h.fr o], ((((h.bel.setCell (by show w.heap.size ≤ G2; omega) _).setCell (by show w.heap.size ≤ G2; omega) _).setCell (by show w.heap.size ≤ G2; omega) _).setCell (by show w.heap.size ≤ G2; omega) _)⟩

set_option maxHeartbeats 8000000 in
theorem leastI (x : RQ) (b off n c : Nat) (l : List RQ) (w : World) (h : RQ.Is w x) (hl : Rats w b off l) (hn : l.length = n) (h1 : n ≤ 1000) :
    Calls Try.prog 164 #[.agg #[.bool x.q.num.g, .slice x.q.num.a x.q.num.n x.q.num.c, .bool x.q.den.g, .slice x.q.den.a x.q.den.n x.q.den.c], .slice (some ⟨b, off, none⟩) n c] w (OutS w (l.foldl stLo x).N (l.foldl stLo x).D (l.foldl stHi x).N (l.foldl stHi x).D) := by
  have H1 := hide h
  have HL := hide hl
  have HN := hide hn
  clear h hl hn
  go_enter Try.func164, Try.ntmps164
  go_upto_region 1 with fail
  have hb : Below w.heap.size w ((w.alloc (.cells #[.bool x.q.num.g, .slice x.q.num.a x.q.num.n x.q.num.c, .bool x.q.den.g, .slice x.q.den.a x.q.den.n x.q.den.c] 30)).alloc (.cells #[.bool false, .slice none 0 0, .bool false, .slice none 0 0, .bool false, .slice none 0 0, .bool false, .slice none 0 0] 41)) := (((Below.refl _ _).alloc (by simp) _).alloc (by simp) _)
  have k0_0 : ((w.alloc (.cells #[.bool x.q.num.g, .slice x.q.num.a x.q.num.n x.q.num.c, .bool x.q.den.g, .slice x.q.den.a x.q.den.n x.q.den.c] 30)).alloc (.cells #[.bool false, .slice none 0 0, .bool false, .slice none 0 0, .bool false, .slice none 0 0, .bool false, .slice none 0 0] 41)).cell? ⟨w.heap.size, 0, none⟩ = some (.bool x.q.num.g) := by simp [go_sem]
  have k0_1 : ((w.alloc (.cells #[.bool x.q.num.g, .slice x.q.num.a x.q.num.n x.q.num.c, .bool x.q.den.g, .slice x.q.den.a x.q.den.n x.q.den.c] 30)).alloc (.cells #[.bool false, .slice none 0 0, .bool false, .slice none 0 0, .bool false, .slice none 0 0, .bool false, .slice none 0 0] 41)).cell? ⟨w.heap.size, 1, none⟩ = some (.slice x.q.num.a x.q.num.n x.q.num.c) := by simp [go_sem]
  have k0_2 : ((w.alloc (.cells #[.bool x.q.num.g, .slice x.q.num.a x.q.num.n x.q.num.c, .bool x.q.den.g, .slice x.q.den.a x.q.den.n x.q.den.c] 30)).alloc (.cells #[.bool false, .slice none 0 0, .bool false, .slice none 0 0, .bool false, .slice none 0 0, .bool false, .slice none 0 0] 41)).cell? ⟨w.heap.size, 2, none⟩ = some (.bool x.q.den.g) := by simp [go_sem]
  have k0_3 : ((w.alloc (.cells #[.bool x.q.num.g, .slice x.q.num.a x.q.num.n x.q.num.c, .bool x.q.den.g, .slice x.q.den.a x.q.den.n x.q.den.c] 30)).alloc (.cells #[.bool false, .slice none 0 0, .bool false, .slice none 0 0, .bool false, .slice none 0 0, .bool false, .slice none 0 0] 41)).cell? ⟨w.heap.size, 3, none⟩ = some (.slice x.q.den.a x.q.den.n x.q.den.c) := by simp [go_sem]
  have k1_0 : ((w.alloc (.cells #[.bool x.q.num.g, .slice x.q.num.a x.q.num.n x.q.num.c, .bool x.q.den.g, .slice x.q.den.a x.q.den.n x.q.den.c] 30)).alloc (.cells #[.bool false, .slice none 0 0, .bool false, .slice none 0 0, .bool false, .slice none 0 0, .bool false, .slice none 0 0] 41)).cell? ⟨w.heap.size + 1, 0, none⟩ = some (.bool false) := by simp [go_sem]
  have k1_1 : ((w.alloc (.cells #[.bool x.q.num.g, .slice x.q.num.a x.q.num.n x.q.num.c, .bool x.q.den.g, .slice x.q.den.a x.q.den.n x.q.den.c] 30)).alloc (.cells #[.bool false, .slice none 0 0, .bool false, .slice none 0 0, .bool false, .slice none 0 0, .bool false, .slice none 0 0] 41)).cell? ⟨w.heap.size + 1, 1, none⟩ = some (.slice none 0 0) := by simp [go_sem]
  have k1_2 : ((w.alloc (.cells #[.bool x.q.num.g, .slice x.q.num.a x.q.num.n x.q.num.c, .bool x.q.den.g, .slice x.q.den.a x.q.den.n x.q.den.c] 30)).alloc (.cells #[.bool false, .slice none 0 0, .bool false, .slice none 0 0, .bool false, .slice none 0 0, .bool false, .slice none 0 0] 41)).cell? ⟨w.heap.size + 1, 2, none⟩ = some (.bool false) := by simp [go_sem]
  have k1_3 : ((w.alloc (.cells #[.bool x.q.num.g, .slice x.q.num.a x.q.num.n x.q.num.c, .bool x.q.den.g, .slice x.q.den.a x.q.den.n x.q.den.c] 30)).alloc (.cells #[.bool false, .slice none 0 0, .bool false, .slice none 0 0, .bool false, .slice none 0 0, .bool false, .slice none 0 0] 41)).cell? ⟨w.heap.size + 1, 3, none⟩ = some (.slice none 0 0) := by simp [go_sem]
  have k1_4 : ((w.alloc (.cells #[.bool x.q.num.g, .slice x.q.num.a x.q.num.n x.q.num.c, .bool x.q.den.g, .slice x.q.den.a x.q.den.n x.q.den.c] 30)).alloc (.cells #[.bool false, .slice none 0 0, .bool false, .slice none 0 0, .bool false, .slice none 0 0, .bool false, .slice none 0 0] 41)).cell? ⟨w.heap.size + 1, 4, none⟩ = some (.bool false) := by simp [go_sem]
  have k1_5 : ((w.alloc (.cells #[.bool x.q.num.g, .slice x.q.num.a x.q.num.n x.q.num.c, .bool x.q.den.g, .slice x.q.den.a x.q.den.n x.q.den.c] 30)).alloc (.cells #[.bool false, .slice none 0 0, .bool false, .slice none 0 0, .bool false, .slice none 0 0, .bool false, .slice none 0 0] 41)).cell? ⟨w.heap.size + 1, 5, none⟩ = some (.slice none 0 0) := by simp [go_sem]
  have k1_6 : ((w.alloc (.cells #[.bool x.q.num.g, .slice x.q.num.a x.q.num.n x.q.num.c, .bool x.q.den.g, .slice x.q.den.a x.q.den.n x.q.den.c] 30)).alloc (.cells #[.bool false, .slice none 0 0, .bool false, .slice none 0 0, .bool false, .slice none 0 0, .bool false, .slice none 0 0] 41)).cell? ⟨w.heap.size + 1, 6, none⟩ = some (.bool false) := by simp [go_sem]
  have k1_7 : ((w.alloc (.cells #[.bool x.q.num.g, .slice x.q.num.a x.q.num.n x.q.num.c, .bool x.q.den.g, .slice x.q.den.a x.q.den.n x.q.den.c] 30)).alloc (.cells #[.bool false, .slice none 0 0, .bool false, .slice none 0 0, .bool false, .slice none 0 0, .bool false, .slice none 0 0] 41)).cell? ⟨w.heap.size + 1, 7, none⟩ = some (.slice none 0 0) := by simp [go_sem]
  have z1 : ∀ o, ((w.alloc (.cells #[.bool x.q.num.g, .slice x.q.num.a x.q.num.n x.q.num.c, .bool x.q.den.g, .slice x.q.den.a x.q.den.n x.q.den.c] 30)).alloc (.cells #[.bool false, .slice none 0 0, .bool false, .slice none 0 0, .bool false, .slice none 0 0, .bool false, .slice none 0 0] 41)).frozen? ⟨w.heap.size + 1, o, none⟩ = false := fun o => by simp [go_sem]
  have szw0 : w.heap.size + 2 ≤ ((w.alloc (.cells #[.bool x.q.num.g, .slice x.q.num.a x.q.num.n x.q.num.c, .bool x.q.den.g, .slice x.q.den.a x.q.den.n x.q.den.c] 30)).alloc (.cells #[.bool false, .slice none 0 0, .bool false, .slice none 0 0, .bool false, .slice none 0 0, .bool false, .slice none 0 0] 41)).heap.size := by simp
  have HB := hide hb
  clear hb
  generalize ((w.alloc (.cells #[.bool x.q.num.g, .slice x.q.num.a x.q.num.n x.q.num.c, .bool x.q.den.g, .slice x.q.den.a x.q.den.n x.q.den.c] 30)).alloc (.cells #[.bool false, .slice none 0 0, .bool false, .slice none 0 0, .bool false, .slice none 0 0, .bool false, .slice none 0 0] 41)) = w0 at *
  go_cut [5, 6] (fun p q' wx => ∃ (G1 G2 : Nat), p = .pointer (some ⟨G1, 0, none⟩) ∧ q' = .pointer (some ⟨G2, 0, none⟩) ∧ Hid (Two4 w0 wx G1 G2 x.q x.q))
  case first =>
    go_region_held3 (fun w' => w'.cell? ⟨w.heap.size, 0, none⟩ = some (.bool x.q.num.g) ∧ w'.cell? ⟨w.heap.size, 1, none⟩ = some (.slice x.q.num.a x.q.num.n x.q.num.c) ∧ w'.cell? ⟨w.heap.size, 2, none⟩ = some (.bool x.q.den.g) ∧ w'.cell? ⟨w.heap.size, 3, none⟩ = some (.slice x.q.den.a x.q.den.n x.q.den.c)) (first | (with_reducible exact ⟨k0_0, k0_1, k0_2, k0_3⟩) | (with_reducible exact ⟨cd_other (k0_0), cd_other (k0_1), cd_other (k0_2), cd_other (k0_3)⟩) | (with_reducible exact ⟨ca_other (k0_0), ca_other (k0_1), ca_other (k0_2), ca_other (k0_3)⟩) | (with_reducible exact ⟨cd_other (ca_other (k0_0)), cd_other (ca_other (k0_1)), cd_other (ca_other (k0_2)), cd_other (ca_other (k0_3))⟩) | (with_reducible exact ⟨ca_other (cd_other (k0_0)), ca_other (cd_other (k0_1)), ca_other (cd_other (k0_2)), ca_other (cd_other (k0_3))⟩) | (with_reducible exact ⟨ca_other (ca_other (k0_0)), ca_other (ca_other (k0_1)), ca_other (ca_other (k0_2)), ca_other (ca_other (k0_3))⟩) | (with_reducible exact ⟨cd_other (ca_other (ca_other (k0_0))), cd_other (ca_other (ca_other (k0_1))), cd_other (ca_other (ca_other (k0_2))), cd_other (ca_other (ca_other (k0_3)))⟩) | (with_reducible exact ⟨ca_other (cd_other (ca_other (k0_0))), ca_other (cd_other (ca_other (k0_1))), ca_other (cd_other (ca_other (k0_2))), ca_other (cd_other (ca_other (k0_3)))⟩) | (with_reducible exact ⟨ca_other (ca_other (cd_other (k0_0))), ca_other (ca_other (cd_other (k0_1))), ca_other (ca_other (cd_other (k0_2))), ca_other (ca_other (cd_other (k0_3)))⟩) | (refine ⟨?_, ?_, ?_, ?_⟩ <;> (simp [go_sem, k0_0, k0_1, k0_2, k0_3]; done)) | fail) (fail)
    all_goals go_wp2_with fail
    all_goals go_meet
    all_goals refine ⟨_, _, rfl, rfl, hide ⟨?_, ?_, ?_, ?_, ?_, ?_, ?_, ?_, ?_, ?_, ?_, ?_, ?_, ?_, ?_, ?_⟩⟩
    all_goals first | (simp [go_sem]; done) | (intro o; simp [go_sem]; done) | exact ((Below.refl _ _).alloc (Nat.le_refl _) _).alloc (by simp) _ | exact (((Below.refl _ _).alloc (Nat.le_refl _) _).alloc (by simp) _).drew
  case rest =>
    obtain ⟨G1, G2, rfl, rfl, HT⟩ := hcut
    have hb := (unhide HT).bel
    have g1 : w.heap.size + 1 < G1 := by have := (unhide HT).lo1; omega
    have g2 : w.heap.size + 1 < G2 := by have := (unhide HT).lo2; omega
    have HNE := hide (unhide HT).ne
    have L0 : Hid (Lst w wc G1 G2 x.q x.q) := hide ⟨(unhide HT).a0, (unhide HT).a1, (unhide HT).a2, (unhide HT).a3, (unhide HT).b0, (unhide HT).b1, (unhide HT).b2, (unhide HT).b3, (unhide HT).f1, (unhide HT).f2, cell_later hb k1_0, cell_later hb k1_1, cell_later hb k1_2, cell_later hb k1_3, cell_later hb k1_4, cell_later hb k1_5, cell_later hb k1_6, cell_later hb k1_7, fun o => frozen_later hb (World.block_lt_of_cell? _ _ k1_0) (z1 o), below_on (unhide HB) hb⟩
    clear hb HT k0_0 k0_1 k0_2 k0_3 k1_0 k1_1 k1_2 k1_3 k1_4 k1_5 k1_6 k1_7 z1 HB
    go_wp2
    go_loopw [13] (fun iv wr => ∃ (i : Nat) (lo hi : RQ), i ≤ n ∧ iv = .int .i64 i ∧ Hid (lo = (l.take i).foldl stLo x) ∧ Hid (hi = (l.take i).foldl stHi x) ∧ Hid (RQ.Is w lo) ∧ Hid (RQ.Is w hi) ∧ Hid (Lst w wr G1 G2 lo.q hi.q)) (fun iv _ => n - (intOf iv).toNat)
    case atStart => exact ⟨0, x, x, Nat.zero_le _, rfl, hide rfl, hide rfl, H1, H1, L0⟩
    case round =>
      obtain ⟨i, lo, hi, hi0, rfl, EL, EH, JL, JH, LL⟩ := hrel
      clear L0
      by_cases hlt : i < n
      · have hlt' : (i : Int) < (n : Int) := by omega
        have e0 := (unhide HL).at_ i (by rw [unhide HN]; exact hlt)
        have j0 := (unhide HL).is i (by rw [unhide HN]; exact hlt)
        obtain ⟨y, hy⟩ : ∃ y, y = l[i]'(by rw [unhide HN]; exact hlt) := ⟨_, rfl⟩
        rw [← hy] at e0 j0
        have EY := hide hy
        have JY := hide j0
        obtain ⟨e00, e01, e02, e03⟩ := e0
        have E0 : wr.cell? ⟨b, off + i * 4, none⟩ = some (.bool y.q.num.g) := ((unhide LL).bel.cell (p := ⟨b, off + i * 4, none⟩) (unhide HL).lt).trans e00
        have E1 : wr.cell? ⟨b, off + i * 4 + 1, none⟩ = some (.slice y.q.num.a y.q.num.n y.q.num.c) := ((unhide LL).bel.cell (p := ⟨b, off + i * 4 + 1, none⟩) (unhide HL).lt).trans e01
        have E2 : wr.cell? ⟨b, off + i * 4 + 2, none⟩ = some (.bool y.q.den.g) := ((unhide LL).bel.cell (p := ⟨b, off + i * 4 + 2, none⟩) (unhide HL).lt).trans e02
        have E3 : wr.cell? ⟨b, off + i * 4 + 3, none⟩ = some (.slice y.q.den.a y.q.den.n y.q.den.c) := ((unhide LL).bel.cell (p := ⟨b, off + i * 4 + 3, none⟩) (unhide HL).lt).trans e03
        clear hy j0 e00 e01 e02 e03
        have LA := hide ((unhide LL).later ((Below.refl _ _).alloc (Nat.le_refl _) (.cells #[.bool y.q.num.g, .slice y.q.num.a y.q.num.n y.q.num.c, .bool y.q.den.g, .slice y.q.den.a y.q.den.n y.q.den.c] 30)))
        have SL : Hid ((l.take (i + 1)).foldl stLo x = stLo lo y ∧ (l.take (i + 1)).foldl stHi x = stHi hi y) := hide (by
          have ht : l.take (i + 1) = l.take i ++ [y] := by rw [unhide EY]; exact (List.take_append_getElem (by rw [unhide HN]; exact hlt)).symm
          rw [ht, List.foldl_append, List.foldl_append, ← unhide EL, ← unhide EH]
          exact ⟨rfl, rfl⟩)
        have g1r : G1 < wr.heap.size := World.block_lt_of_cell? _ _ (unhide LL).a0
        have g2r : G2 < wr.heap.size := World.block_lt_of_cell? _ _ (unhide LL).b0
        clear LL EL EH
        by_cases c1 : y.N * lo.D < lo.N * y.D
        · by_cases c2 : hi.N * y.D < y.N * hi.D
          · have t1 : decide (cmpZ (y.N * lo.D) (lo.N * y.D) < 0) = true := cmpZ_lt1 c1
            have t2 : decide (0 < cmpZ (y.N * hi.D) (hi.N * y.D)) = true := cmpZ_gt1 c2
            have NL : Hid (stLo lo y = y ∧ stHi hi y = y) := hide ⟨by unfold stLo; rw [if_pos c1], by unfold stHi; rw [if_pos c2]⟩
            clear c1 c2
            have p0 := (unhide LA).a0
            have p1 := (unhide LA).a1
            have p2 := (unhide LA).a2
            have p3 := (unhide LA).a3
            go_wp2_with fail
            refine (cmpQI y.q lo.q _ _ _ _ _ ((unhide JY).is.later (unhide LA).bel) ((unhide JL).is.later (unhide LA).bel) (unhide JY).kn (unhide JY).kd (unhide JL).kn (unhide JL).kd).mono ?_
            rintro e w1 ⟨rfl, hb⟩
            have q0 : w1.cell? ⟨wr.heap.size, 0, none⟩ = some (.bool y.q.num.g) := cell_later hb (by simp [go_sem])
            have q1 : w1.cell? ⟨wr.heap.size, 1, none⟩ = some (.slice y.q.num.a y.q.num.n y.q.num.c) := cell_later hb (by simp [go_sem])
            have q2 : w1.cell? ⟨wr.heap.size, 2, none⟩ = some (.bool y.q.den.g) := cell_later hb (by simp [go_sem])
            have q3 : w1.cell? ⟨wr.heap.size, 3, none⟩ = some (.slice y.q.den.a y.q.den.n y.q.den.c) := cell_later hb (by simp [go_sem])
            have LB := hide ((unhide LA).later hb)
            clear hb LA E0 E1 E2 E3 p0 p1 p2 p3
            have m0 := (unhide LB).a0
            have m1 := (unhide LB).a1
            have m2 := (unhide LB).a2
            have m3 := (unhide LB).a3
            have mf := (unhide LB).f1
            have LC := hide ((unhide LB).set1 (q := y.q) (unhide HNE) g1 g2)
            have qq0 : ((((w1.setCell ⟨G1, 0, none⟩ (.bool y.q.num.g)).setCell ⟨G1, 1, none⟩ (.slice y.q.num.a y.q.num.n y.q.num.c)).setCell ⟨G1, 2, none⟩ (.bool y.q.den.g)).setCell ⟨G1, 3, none⟩ (.slice y.q.den.a y.q.den.n y.q.den.c)).cell? ⟨wr.heap.size, 0, none⟩ = some (.bool y.q.num.g) := cs_other (cs_other (cs_other (cs_other q0 (by omega)) (by omega)) (by omega)) (by omega)
            have qq1 : ((((w1.setCell ⟨G1, 0, none⟩ (.bool y.q.num.g)).setCell ⟨G1, 1, none⟩ (.slice y.q.num.a y.q.num.n y.q.num.c)).setCell ⟨G1, 2, none⟩ (.bool y.q.den.g)).setCell ⟨G1, 3, none⟩ (.slice y.q.den.a y.q.den.n y.q.den.c)).cell? ⟨wr.heap.size, 1, none⟩ = some (.slice y.q.num.a y.q.num.n y.q.num.c) := cs_other (cs_other (cs_other (cs_other q1 (by omega)) (by omega)) (by omega)) (by omega)
            have qq2 : ((((w1.setCell ⟨G1, 0, none⟩ (.bool y.q.num.g)).setCell ⟨G1, 1, none⟩ (.slice y.q.num.a y.q.num.n y.q.num.c)).setCell ⟨G1, 2, none⟩ (.bool y.q.den.g)).setCell ⟨G1, 3, none⟩ (.slice y.q.den.a y.q.den.n y.q.den.c)).cell? ⟨wr.heap.size, 2, none⟩ = some (.bool y.q.den.g) := cs_other (cs_other (cs_other (cs_other q2 (by omega)) (by omega)) (by omega)) (by omega)
            have qq3 : ((((w1.setCell ⟨G1, 0, none⟩ (.bool y.q.num.g)).setCell ⟨G1, 1, none⟩ (.slice y.q.num.a y.q.num.n y.q.num.c)).setCell ⟨G1, 2, none⟩ (.bool y.q.den.g)).setCell ⟨G1, 3, none⟩ (.slice y.q.den.a y.q.den.n y.q.den.c)).cell? ⟨wr.heap.size, 3, none⟩ = some (.slice y.q.den.a y.q.den.n y.q.den.c) := cs_other (cs_other (cs_other (cs_other q3 (by omega)) (by omega)) (by omega)) (by omega)
            have pp0 := (unhide LC).b0
            have pp1 := (unhide LC).b1
            have pp2 := (unhide LC).b2
            have pp3 := (unhide LC).b3
            go_wp2_with fail
            refine (cmpQI y.q hi.q _ _ _ _ _ ((unhide JY).is.later (unhide LC).bel) ((unhide JH).is.later (unhide LC).bel) (unhide JY).kn (unhide JY).kd (unhide JH).kn (unhide JH).kd).mono ?_
            rintro e w2 ⟨rfl, hb⟩
            have s0 := cell_later hb qq0
            have s1 := cell_later hb qq1
            have s2 := cell_later hb qq2
            have s3 := cell_later hb qq3
            have LD := hide ((unhide LC).later hb)
            clear hb LB pp0 pp1 pp2 pp3 q0 q1 q2 q3 LC qq0 qq1 qq2 qq3 m0 m1 m2 m3 mf
            have m0 := (unhide LD).b0
            have m1 := (unhide LD).b1
            have m2 := (unhide LD).b2
            have m3 := (unhide LD).b3
            have mf := (unhide LD).f2
            have LE := hide ((unhide LD).set2 (q := y.q) (unhide HNE) g1 g2)
            go_wp2
            go_roundw
            case rel => exact ⟨i + 1, y, y, by omega, by go_num, hide (by rw [(unhide SL).1, (unhide NL).1]), hide (by rw [(unhide SL).2, (unhide NL).2]), JY, JY, LE⟩
            case measure => simp [intOf]; omega
          · have t1 : decide (cmpZ (y.N * lo.D) (lo.N * y.D) < 0) = true := cmpZ_lt1 c1
            have t2 : decide (0 < cmpZ (y.N * hi.D) (hi.N * y.D)) = false := cmpZ_gt0 c2
            have NL : Hid (stLo lo y = y ∧ stHi hi y = hi) := hide ⟨by unfold stLo; rw [if_pos c1], by unfold stHi; rw [if_neg c2]⟩
            clear c1 c2
            have p0 := (unhide LA).a0
            have p1 := (unhide LA).a1
            have p2 := (unhide LA).a2
            have p3 := (unhide LA).a3
            go_wp2_with fail
            refine (cmpQI y.q lo.q _ _ _ _ _ ((unhide JY).is.later (unhide LA).bel) ((unhide JL).is.later (unhide LA).bel) (unhide JY).kn (unhide JY).kd (unhide JL).kn (unhide JL).kd).mono ?_
            rintro e w1 ⟨rfl, hb⟩
            have q0 : w1.cell? ⟨wr.heap.size, 0, none⟩ = some (.bool y.q.num.g) := cell_later hb (by simp [go_sem])
            have q1 : w1.cell? ⟨wr.heap.size, 1, none⟩ = some (.slice y.q.num.a y.q.num.n y.q.num.c) := cell_later hb (by simp [go_sem])
            have q2 : w1.cell? ⟨wr.heap.size, 2, none⟩ = some (.bool y.q.den.g) := cell_later hb (by simp [go_sem])
            have q3 : w1.cell? ⟨wr.heap.size, 3, none⟩ = some (.slice y.q.den.a y.q.den.n y.q.den.c) := cell_later hb (by simp [go_sem])
            have LB := hide ((unhide LA).later hb)
            clear hb LA E0 E1 E2 E3 p0 p1 p2 p3
            have m0 := (unhide LB).a0
            have m1 := (unhide LB).a1
            have m2 := (unhide LB).a2
            have m3 := (unhide LB).a3
            have mf := (unhide LB).f1
            have LC := hide ((unhide LB).set1 (q := y.q) (unhide HNE) g1 g2)
            have qq0 : ((((w1.setCell ⟨G1, 0, none⟩ (.bool y.q.num.g)).setCell ⟨G1, 1, none⟩ (.slice y.q.num.a y.q.num.n y.q.num.c)).setCell ⟨G1, 2, none⟩ (.bool y.q.den.g)).setCell ⟨G1, 3, none⟩ (.slice y.q.den.a y.q.den.n y.q.den.c)).cell? ⟨wr.heap.size, 0, none⟩ = some (.bool y.q.num.g) := cs_other (cs_other (cs_other (cs_other q0 (by omega)) (by omega)) (by omega)) (by omega)
            have qq1 : ((((w1.setCell ⟨G1, 0, none⟩ (.bool y.q.num.g)).setCell ⟨G1, 1, none⟩ (.slice y.q.num.a y.q.num.n y.q.num.c)).setCell ⟨G1, 2, none⟩ (.bool y.q.den.g)).setCell ⟨G1, 3, none⟩ (.slice y.q.den.a y.q.den.n y.q.den.c)).cell? ⟨wr.heap.size, 1, none⟩ = some (.slice y.q.num.a y.q.num.n y.q.num.c) := cs_other (cs_other (cs_other (cs_other q1 (by omega)) (by omega)) (by omega)) (by omega)
            have qq2 : ((((w1.setCell ⟨G1, 0, none⟩ (.bool y.q.num.g)).setCell ⟨G1, 1, none⟩ (.slice y.q.num.a y.q.num.n y.q.num.c)).setCell ⟨G1, 2, none⟩ (.bool y.q.den.g)).setCell ⟨G1, 3, none⟩ (.slice y.q.den.a y.q.den.n y.q.den.c)).cell? ⟨wr.heap.size, 2, none⟩ = some (.bool y.q.den.g) := cs_other (cs_other (cs_other (cs_other q2 (by omega)) (by omega)) (by omega)) (by omega)
            have qq3 : ((((w1.setCell ⟨G1, 0, none⟩ (.bool y.q.num.g)).setCell ⟨G1, 1, none⟩ (.slice y.q.num.a y.q.num.n y.q.num.c)).setCell ⟨G1, 2, none⟩ (.bool y.q.den.g)).setCell ⟨G1, 3, none⟩ (.slice y.q.den.a y.q.den.n y.q.den.c)).cell? ⟨wr.heap.size, 3, none⟩ = some (.slice y.q.den.a y.q.den.n y.q.den.c) := cs_other (cs_other (cs_other (cs_other q3 (by omega)) (by omega)) (by omega)) (by omega)
            have pp0 := (unhide LC).b0
            have pp1 := (unhide LC).b1
            have pp2 := (unhide LC).b2
            have pp3 := (unhide LC).b3
            go_wp2_with fail
            refine (cmpQI y.q hi.q _ _ _ _ _ ((unhide JY).is.later (unhide LC).bel) ((unhide JH).is.later (unhide LC).bel) (unhide JY).kn (unhide JY).kd (unhide JH).kn (unhide JH).kd).mono ?_
            rintro e w2 ⟨rfl, hb⟩
            have s0 := cell_later hb qq0
            have s1 := cell_later hb qq1
            have s2 := cell_later hb qq2
            have s3 := cell_later hb qq3
            have LD := hide ((unhide LC).later hb)
            clear hb LB pp0 pp1 pp2 pp3 q0 q1 q2 q3 LC qq0 qq1 qq2 qq3 m0 m1 m2 m3 mf
            go_wp2
            go_roundw
            case rel => exact ⟨i + 1, y, hi, by omega, by go_num, hide (by rw [(unhide SL).1, (unhide NL).1]), hide (by rw [(unhide SL).2, (unhide NL).2]), JY, JH, LD⟩
            case measure => simp [intOf]; omega
        · by_cases c2 : hi.N * y.D < y.N * hi.D
          · have t1 : decide (cmpZ (y.N * lo.D) (lo.N * y.D) < 0) = false := cmpZ_lt0 c1
            have t2 : decide (0 < cmpZ (y.N * hi.D) (hi.N * y.D)) = true := cmpZ_gt1 c2
            have NL : Hid (stLo lo y = lo ∧ stHi hi y = y) := hide ⟨by unfold stLo; rw [if_neg c1], by unfold stHi; rw [if_pos c2]⟩
            clear c1 c2
            have p0 := (unhide LA).a0
            have p1 := (unhide LA).a1
            have p2 := (unhide LA).a2
            have p3 := (unhide LA).a3
            go_wp2_with fail
            refine (cmpQI y.q lo.q _ _ _ _ _ ((unhide JY).is.later (unhide LA).bel) ((unhide JL).is.later (unhide LA).bel) (unhide JY).kn (unhide JY).kd (unhide JL).kn (unhide JL).kd).mono ?_
            rintro e w1 ⟨rfl, hb⟩
            have q0 : w1.cell? ⟨wr.heap.size, 0, none⟩ = some (.bool y.q.num.g) := cell_later hb (by simp [go_sem])
            have q1 : w1.cell? ⟨wr.heap.size, 1, none⟩ = some (.slice y.q.num.a y.q.num.n y.q.num.c) := cell_later hb (by simp [go_sem])
            have q2 : w1.cell? ⟨wr.heap.size, 2, none⟩ = some (.bool y.q.den.g) := cell_later hb (by simp [go_sem])
            have q3 : w1.cell? ⟨wr.heap.size, 3, none⟩ = some (.slice y.q.den.a y.q.den.n y.q.den.c) := cell_later hb (by simp [go_sem])
            have LB := hide ((unhide LA).later hb)
            clear hb LA E0 E1 E2 E3 p0 p1 p2 p3
            have pp0 := (unhide LB).b0
            have pp1 := (unhide LB).b1
            have pp2 := (unhide LB).b2
            have pp3 := (unhide LB).b3
            go_wp2_with fail
            refine (cmpQI y.q hi.q _ _ _ _ _ ((unhide JY).is.later (unhide LB).bel) ((unhide JH).is.later (unhide LB).bel) (unhide JY).kn (unhide JY).kd (unhide JH).kn (unhide JH).kd).mono ?_
            rintro e w2 ⟨rfl, hb⟩
            have s0 := cell_later hb q0
            have s1 := cell_later hb q1
            have s2 := cell_later hb q2
            have s3 := cell_later hb q3
            have LD := hide ((unhide LB).later hb)
            clear hb LB pp0 pp1 pp2 pp3 q0 q1 q2 q3
            have m0 := (unhide LD).b0
            have m1 := (unhide LD).b1
            have m2 := (unhide LD).b2
            have m3 := (unhide LD).b3
            have mf := (unhide LD).f2
            have LE := hide ((unhide LD).set2 (q := y.q) (unhide HNE) g1 g2)
            go_wp2
            go_roundw
            case rel => exact ⟨i + 1, lo, y, by omega, by go_num, hide (by rw [(unhide SL).1, (unhide NL).1]), hide (by rw [(unhide SL).2, (unhide NL).2]), JL, JY, LE⟩
            case measure => simp [intOf]; omega
          · have t1 : decide (cmpZ (y.N * lo.D) (lo.N * y.D) < 0) = false := cmpZ_lt0 c1
            have t2 : decide (0 < cmpZ (y.N * hi.D) (hi.N * y.D)) = false := cmpZ_gt0 c2
            have NL : Hid (stLo lo y = lo ∧ stHi hi y = hi) := hide ⟨by unfold stLo; rw [if_neg c1], by unfold stHi; rw [if_neg c2]⟩
            clear c1 c2
            have p0 := (unhide LA).a0
            have p1 := (unhide LA).a1
            have p2 := (unhide LA).a2
            have p3 := (unhide LA).a3
            go_wp2_with fail
            refine (cmpQI y.q lo.q _ _ _ _ _ ((unhide JY).is.later (unhide LA).bel) ((unhide JL).is.later (unhide LA).bel) (unhide JY).kn (unhide JY).kd (unhide JL).kn (unhide JL).kd).mono ?_
            rintro e w1 ⟨rfl, hb⟩
            have q0 : w1.cell? ⟨wr.heap.size, 0, none⟩ = some (.bool y.q.num.g) := cell_later hb (by simp [go_sem])
            have q1 : w1.cell? ⟨wr.heap.size, 1, none⟩ = some (.slice y.q.num.a y.q.num.n y.q.num.c) := cell_later hb (by simp [go_sem])
            have q2 : w1.cell? ⟨wr.heap.size, 2, none⟩ = some (.bool y.q.den.g) := cell_later hb (by simp [go_sem])
            have q3 : w1.cell? ⟨wr.heap.size, 3, none⟩ = some (.slice y.q.den.a y.q.den.n y.q.den.c) := cell_later hb (by simp [go_sem])
            have LB := hide ((unhide LA).later hb)
            clear hb LA E0 E1 E2 E3 p0 p1 p2 p3
            have pp0 := (unhide LB).b0
            have pp1 := (unhide LB).b1
            have pp2 := (unhide LB).b2
            have pp3 := (unhide LB).b3
            go_wp2_with fail
            refine (cmpQI y.q hi.q _ _ _ _ _ ((unhide JY).is.later (unhide LB).bel) ((unhide JH).is.later (unhide LB).bel) (unhide JY).kn (unhide JY).kd (unhide JH).kn (unhide JH).kd).mono ?_
            rintro e w2 ⟨rfl, hb⟩
            have s0 := cell_later hb q0
            have s1 := cell_later hb q1
            have s2 := cell_later hb q2
            have s3 := cell_later hb q3
            have LD := hide ((unhide LB).later hb)
            clear hb LB pp0 pp1 pp2 pp3 q0 q1 q2 q3
            go_wp2
            go_roundw
            case rel => exact ⟨i + 1, lo, hi, by omega, by go_num, hide (by rw [(unhide SL).1, (unhide NL).1]), hide (by rw [(unhide SL).2, (unhide NL).2]), JL, JH, LD⟩
            case measure => simp [intOf]; omega
      · obtain rfl : i = n := by omega
        have E1 : Hid (lo = l.foldl stLo x ∧ hi = l.foldl stHi x) := hide ⟨by rw [unhide EL, ← unhide HN, List.take_length], by rw [unhide EH, ← unhide HN, List.take_length]⟩
        have QL := hide ((unhide JL).is.later (unhide LL).bel)
        have QH := hide ((unhide JH).is.later (unhide LL).bel)
        have HB := hide (unhide LL).bel
        have k2_0 := (unhide LL).a0
        have k3_0 := (unhide LL).b0
        have k2_1 := (unhide LL).a1
        have k3_1 := (unhide LL).b1
        have k2_2 := (unhide LL).a2
        have k3_2 := (unhide LL).b2
        have k2_3 := (unhide LL).a3
        have k3_3 := (unhide LL).b3
        have k1_0 := (unhide LL).r0
        have k1_1 := (unhide LL).r1
        have k1_2 := (unhide LL).r2
        have k1_3 := (unhide LL).r3
        have k1_4 := (unhide LL).r4
        have k1_5 := (unhide LL).r5
        have k1_6 := (unhide LL).r6
        have k1_7 := (unhide LL).r7
        have z1 := (unhide LL).fr
        have wrl : w.heap.size + 1 < wr.heap.size := World.block_lt_of_cell? _ _ k1_0
        clear LL
        go_upto_region 10 with fail
        have ne2_1 : G1 ≠ w.heap.size + 1 := by omega
        have ne3_1 : G2 ≠ w.heap.size + 1 := by omega
        go_region_held3 (fun w' => w'.cell? ⟨G1, 0, none⟩ = some (.bool lo.q.num.g) ∧ w'.cell? ⟨G1, 1, none⟩ = some (.slice lo.q.num.a lo.q.num.n lo.q.num.c) ∧ w'.cell? ⟨G1, 2, none⟩ = some (.bool lo.q.den.g) ∧ w'.cell? ⟨G1, 3, none⟩ = some (.slice lo.q.den.a lo.q.den.n lo.q.den.c) ∧ w'.cell? ⟨G2, 0, none⟩ = some (.bool hi.q.num.g) ∧ w'.cell? ⟨G2, 1, none⟩ = some (.slice hi.q.num.a hi.q.num.n hi.q.num.c) ∧ w'.cell? ⟨G2, 2, none⟩ = some (.bool hi.q.den.g) ∧ w'.cell? ⟨G2, 3, none⟩ = some (.slice hi.q.den.a hi.q.den.n hi.q.den.c)) (with_reducible (first | exact ⟨k2_0, k2_1, k2_2, k2_3, k3_0, k3_1, k3_2, k3_3⟩ | exact ⟨cd_other k2_0, cd_other k2_1, cd_other k2_2, cd_other k2_3, cd_other k3_0, cd_other k3_1, cd_other k3_2, cd_other k3_3⟩ | exact ⟨cs_other (cs_other (cs_other (cs_other (cs_other (cs_other (cs_other (cs_other (k2_0) ne2_1) ne2_1) ne2_1) ne2_1) ne2_1) ne2_1) ne2_1) ne2_1, cs_other (cs_other (cs_other (cs_other (cs_other (cs_other (cs_other (cs_other (k2_1) ne2_1) ne2_1) ne2_1) ne2_1) ne2_1) ne2_1) ne2_1) ne2_1, cs_other (cs_other (cs_other (cs_other (cs_other (cs_other (cs_other (cs_other (k2_2) ne2_1) ne2_1) ne2_1) ne2_1) ne2_1) ne2_1) ne2_1) ne2_1, cs_other (cs_other (cs_other (cs_other (cs_other (cs_other (cs_other (cs_other (k2_3) ne2_1) ne2_1) ne2_1) ne2_1) ne2_1) ne2_1) ne2_1) ne2_1, cs_other (cs_other (cs_other (cs_other (cs_other (cs_other (cs_other (cs_other (k3_0) ne3_1) ne3_1) ne3_1) ne3_1) ne3_1) ne3_1) ne3_1) ne3_1, cs_other (cs_other (cs_other (cs_other (cs_other (cs_other (cs_other (cs_other (k3_1) ne3_1) ne3_1) ne3_1) ne3_1) ne3_1) ne3_1) ne3_1) ne3_1, cs_other (cs_other (cs_other (cs_other (cs_other (cs_other (cs_other (cs_other (k3_2) ne3_1) ne3_1) ne3_1) ne3_1) ne3_1) ne3_1) ne3_1) ne3_1, cs_other (cs_other (cs_other (cs_other (cs_other (cs_other (cs_other (cs_other (k3_3) ne3_1) ne3_1) ne3_1) ne3_1) ne3_1) ne3_1) ne3_1) ne3_1⟩ | fail))
          (first
          | (go_at_call_of 202 (Value.agg #[Value.bool lo.q.num.g, Value.slice lo.q.num.a lo.q.num.n lo.q.num.c, Value.bool lo.q.den.g, Value.slice lo.q.den.a lo.q.den.n lo.q.den.c]); refine (copyQ lo.q lo.N lo.D _ ?_ ((unhide JL).kn.mono (by omega)) ((unhide JL).kd.mono (by omega))).mono ?_; exact (unhide QL).later (Below.refl _ _).drew; rintro e w1 ⟨r1, x1, u1, rfl, hb, o1, a1, n1, m1⟩; have hbx : Below wr.heap.size wr w1 := below_of_drew hb; have szw1 := hbx.size; replace z1 := fun o => frozen_later hbx (World.block_lt_of_cell? _ _ k1_0) (z1 o); replace k2_0 := cell_later hbx k2_0; replace k3_0 := cell_later hbx k3_0; replace k2_1 := cell_later hbx k2_1; replace k3_1 := cell_later hbx k3_1; replace k2_2 := cell_later hbx k2_2; replace k3_2 := cell_later hbx k3_2; replace k2_3 := cell_later hbx k2_3; replace k3_3 := cell_later hbx k3_3; replace k1_0 := cell_later hbx k1_0; replace k1_1 := cell_later hbx k1_1; replace k1_2 := cell_later hbx k1_2; replace k1_3 := cell_later hbx k1_3; replace k1_4 := cell_later hbx k1_4; replace k1_5 := cell_later hbx k1_5; replace k1_6 := cell_later hbx k1_6; replace k1_7 := cell_later hbx k1_7; replace QL := hide ((unhide QL).later hbx); replace QH := hide ((unhide QH).later hbx); have o1x : AllOwn wr.heap.size w1.heap.size w1 [(r1.num, ⟨decide (lo.N < 0), x1⟩), (r1.den, ⟨decide (lo.D < 0), u1⟩)] := o1; have NN1 := hide (And.intro n1 m1); have O1 := hide (o1x); have A1 := hide (a1); have HBr := hide hbx; clear hbx hb o1 a1 n1 m1 o1x)
          | (go_at_call_of 202 (Value.agg #[Value.bool hi.q.num.g, Value.slice hi.q.num.a hi.q.num.n hi.q.num.c, Value.bool hi.q.den.g, Value.slice hi.q.den.a hi.q.den.n hi.q.den.c]); refine (copyQ hi.q hi.N hi.D _ ?_ ((unhide JH).kn.mono (by omega)) ((unhide JH).kd.mono (by omega))).mono ?_; exact (unhide QH).later (Below.refl _ _); rintro e w2 ⟨r2, x2, u2, rfl, hb, o2, a2, n2, m2⟩; have hbx : Below w1.heap.size w1 w2 := hb; have szw2 := hbx.size; replace z1 := fun o => frozen_later hbx (World.block_lt_of_cell? _ _ k1_0) (z1 o); replace k2_0 := cell_later hbx k2_0; replace k3_0 := cell_later hbx k3_0; replace k2_1 := cell_later hbx k2_1; replace k3_1 := cell_later hbx k3_1; replace k2_2 := cell_later hbx k2_2; replace k3_2 := cell_later hbx k3_2; replace k2_3 := cell_later hbx k2_3; replace k3_3 := cell_later hbx k3_3; replace k1_0 := cell_later hbx k1_0; replace k1_1 := cell_later hbx k1_1; replace k1_2 := cell_later hbx k1_2; replace k1_3 := cell_later hbx k1_3; replace k1_4 := cell_later hbx k1_4; replace k1_5 := cell_later hbx k1_5; replace k1_6 := cell_later hbx k1_6; replace k1_7 := cell_later hbx k1_7; replace QL := hide ((unhide QL).later hbx); replace QH := hide ((unhide QH).later hbx); replace O1 := hide ((unhide O1).later hbx); replace A1 := hide ((unhide A1).later hbx); have NN2 := hide (And.intro n2 m2); have O2 := hide (o2); have A2 := hide (a2); have HBr := hide (below_on (unhide HBr) hbx); clear hbx hb o2 a2 n2 m2))
        replace HB := hide (below_on (unhide HB) (unhide HBr))
        clear HBr
        have OO := hide (((unhide O1).join (unhide O2) (by omega) (by omega)).wide (lo' := w.heap.size + 1 + 1) (hi' := w2.heap.size) (by omega) (by omega))
        have AA := hide ((unhide A1).append (unhide A2))
        go_wp2
        refine bodyPost_ret (v := .agg #[.bool r1.num.g, .slice r1.num.a r1.num.n r1.num.c, .bool r1.den.g, .slice r1.den.a r1.den.n r1.den.c, .bool r2.num.g, .slice r2.num.a r2.num.n r2.num.c, .bool r2.den.g, .slice r2.den.a r2.den.n r2.den.c]) (by simp [results, Try.results164, go_sem, k1_0, k1_1, k1_2, k1_3, k1_4, k1_5, k1_6, k1_7]) rfl ?_
        rw [← (unhide E1).1, ← (unhide E1).2]
        exact outS_fin (v := ⟨r1, r2⟩) (R := w.heap.size + 1) (by omega) (unhide HB) (metS_but (w5 := w2) (v := ⟨r1, r2⟩) (G := w.heap.size + 1)) (unhide OO) (unhide AA) (unhide NN1).1 (unhide NN1).2 (unhide NN2).1 (unhide NN2).2
end Go.Proofs.Ytlmeokeanihhoaa
namespace Go.Proofs.Ytlmeokeanihhoaa
open Go.RowKit
set_option linter.unusedVariables false
set_option maxRecDepth 100000
set_option linter.unusedSimpArgs false

/-- In lowest terms, the denominator above 0. -/
structure Low (N D : Int) : Prop where
  pos : 0 < D
  co : Nat.gcd N.natAbs D.natAbs = 1
theorem Low.same {N D N' D' : Int} (h : Low N D) (k : Low N' D') (e : N * D' = N' * D) : N = N' ∧ D = D' := by
  have h1 : D.natAbs ∣ D'.natAbs := by
    have : D.natAbs ∣ N.natAbs * D'.natAbs := by rw [← Int.natAbs_mul, e, Int.natAbs_mul]; exact Nat.dvd_mul_left _ _
    exact Nat.Coprime.dvd_of_dvd_mul_left (by rw [Nat.Coprime, Nat.gcd_comm]; exact h.co) this
  have h2 : D'.natAbs ∣ D.natAbs := by
    have : D'.natAbs ∣ N'.natAbs * D.natAbs := by rw [← Int.natAbs_mul, ← e, Int.natAbs_mul]; exact Nat.dvd_mul_left _ _
    exact Nat.Coprime.dvd_of_dvd_mul_left (by rw [Nat.Coprime, Nat.gcd_comm]; exact k.co) this
  have h3 : D.natAbs = D'.natAbs := Nat.dvd_antisymm h1 h2
  have hp := h.pos
  have kp := k.pos
  have h4 : D = D' := by omega
  subst h4
  exact ⟨Int.eq_of_mul_eq_mul_right (by omega) e, rfl⟩
end Go.Proofs.Ytlmeokeanihhoaa
namespace Go.Proofs.Ytlmeokeanihhoaa
open Go.RowKit
set_option linter.unusedVariables false
set_option maxRecDepth 100000
set_option linter.unusedSimpArgs false

set_option maxHeartbeats 2000000 in
theorem spanFits_v (v : SV) (w : World) (m1 : v.lo.den.n ≤ maxLen) (m2 : v.hi.den.n ≤ maxLen) :
    Calls Try.prog 163 #[.agg #[.bool v.lo.num.g, .slice v.lo.num.a v.lo.num.n v.lo.num.c, .bool v.lo.den.g, .slice v.lo.den.a v.lo.den.n v.lo.den.c, .bool v.hi.num.g, .slice v.hi.num.a v.hi.num.n v.hi.num.c, .bool v.hi.den.g, .slice v.hi.den.a v.hi.den.n v.hi.den.c]] w fun e w' => e = .returned (.bool (decide ((v.lo.den.n ≠ 0 ∧ v.lo.num.n ≤ 40 ∧ v.lo.den.n ≤ 40) ∧ (v.hi.den.n ≠ 0 ∧ v.hi.num.n ≤ 40 ∧ v.hi.den.n ≤ 40)))) ∧ Below w.heap.size w w' := by
  cases c1 : decide (v.lo.den.n ≠ 0 ∧ v.lo.num.n ≤ 40 ∧ v.lo.den.n ≤ 40)
  · have F1 := hide (fun w1 => fitsI v.lo w1 m1)
    have F2 := hide (fun w1 => fitsI v.hi w1 m2)
    rw [c1] at F1
    rw [show decide ((v.lo.den.n ≠ 0 ∧ v.lo.num.n ≤ 40 ∧ v.lo.den.n ≤ 40) ∧ (v.hi.den.n ≠ 0 ∧ v.hi.num.n ≤ 40 ∧ v.hi.den.n ≤ 40)) = false from decide_eq_false (fun h => absurd h.1 (of_decide_eq_false c1))]
    clear c1
    have B0 := hide (show Below w.heap.size w (w.alloc (.cells #[.bool v.lo.num.g, .slice v.lo.num.a v.lo.num.n v.lo.num.c, .bool v.lo.den.g, .slice v.lo.den.a v.lo.den.n v.lo.den.c, .bool v.hi.num.g, .slice v.hi.num.a v.hi.num.n v.hi.num.c, .bool v.hi.den.g, .slice v.hi.den.a v.hi.den.n v.hi.den.c] 41)) from ((Below.refl _ _).alloc (by simp) _))
    go_enter Try.func163, Try.ntmps163
    go_wp2_with fail
    refine (unhide F1 _).mono ?_
    rintro e w1 ⟨rfl, hb⟩
    have HB := hide (below_on (unhide B0) hb)
    clear hb
    go_wp2
    go_ret
    exact ⟨rfl, unhide HB⟩
  cases c2 : decide (v.hi.den.n ≠ 0 ∧ v.hi.num.n ≤ 40 ∧ v.hi.den.n ≤ 40)
  · have F1 := hide (fun w1 => fitsI v.lo w1 m1)
    have F2 := hide (fun w1 => fitsI v.hi w1 m2)
    rw [c1] at F1
    rw [c2] at F2
    rw [show decide ((v.lo.den.n ≠ 0 ∧ v.lo.num.n ≤ 40 ∧ v.lo.den.n ≤ 40) ∧ (v.hi.den.n ≠ 0 ∧ v.hi.num.n ≤ 40 ∧ v.hi.den.n ≤ 40)) = false from decide_eq_false (fun h => absurd h.2 (of_decide_eq_false c2))]
    clear c1 c2
    have B0 := hide (show Below w.heap.size w (w.alloc (.cells #[.bool v.lo.num.g, .slice v.lo.num.a v.lo.num.n v.lo.num.c, .bool v.lo.den.g, .slice v.lo.den.a v.lo.den.n v.lo.den.c, .bool v.hi.num.g, .slice v.hi.num.a v.hi.num.n v.hi.num.c, .bool v.hi.den.g, .slice v.hi.den.a v.hi.den.n v.hi.den.c] 41)) from ((Below.refl _ _).alloc (by simp) _))
    go_enter Try.func163, Try.ntmps163
    go_wp2_with fail
    refine (unhide F1 _).mono ?_
    rintro e w1 ⟨rfl, hb⟩
    have k0_4 : w1.cell? ⟨w.heap.size, 4, none⟩ = some (.bool v.hi.num.g) := cell_later hb (by simp [go_sem])
    have k0_5 : w1.cell? ⟨w.heap.size, 5, none⟩ = some (.slice v.hi.num.a v.hi.num.n v.hi.num.c) := cell_later hb (by simp [go_sem])
    have k0_6 : w1.cell? ⟨w.heap.size, 6, none⟩ = some (.bool v.hi.den.g) := cell_later hb (by simp [go_sem])
    have k0_7 : w1.cell? ⟨w.heap.size, 7, none⟩ = some (.slice v.hi.den.a v.hi.den.n v.hi.den.c) := cell_later hb (by simp [go_sem])
    have HB := hide (below_on (unhide B0) hb)
    clear hb
    go_wp2_with fail
    refine (unhide F2 _).mono ?_
    rintro e w2 ⟨rfl, hb⟩
    clear k0_4 k0_5 k0_6 k0_7
    replace HB := hide (below_on (unhide HB) hb)
    clear hb
    go_wp2
    go_ret
    exact ⟨rfl, unhide HB⟩
  · have F1 := hide (fun w1 => fitsI v.lo w1 m1)
    have F2 := hide (fun w1 => fitsI v.hi w1 m2)
    rw [c1] at F1
    rw [c2] at F2
    rw [show decide ((v.lo.den.n ≠ 0 ∧ v.lo.num.n ≤ 40 ∧ v.lo.den.n ≤ 40) ∧ (v.hi.den.n ≠ 0 ∧ v.hi.num.n ≤ 40 ∧ v.hi.den.n ≤ 40)) = true from decide_eq_true ⟨of_decide_eq_true c1, of_decide_eq_true c2⟩]
    clear c1 c2
    have B0 := hide (show Below w.heap.size w (w.alloc (.cells #[.bool v.lo.num.g, .slice v.lo.num.a v.lo.num.n v.lo.num.c, .bool v.lo.den.g, .slice v.lo.den.a v.lo.den.n v.lo.den.c, .bool v.hi.num.g, .slice v.hi.num.a v.hi.num.n v.hi.num.c, .bool v.hi.den.g, .slice v.hi.den.a v.hi.den.n v.hi.den.c] 41)) from ((Below.refl _ _).alloc (by simp) _))
    go_enter Try.func163, Try.ntmps163
    go_wp2_with fail
    refine (unhide F1 _).mono ?_
    rintro e w1 ⟨rfl, hb⟩
    have k0_4 : w1.cell? ⟨w.heap.size, 4, none⟩ = some (.bool v.hi.num.g) := cell_later hb (by simp [go_sem])
    have k0_5 : w1.cell? ⟨w.heap.size, 5, none⟩ = some (.slice v.hi.num.a v.hi.num.n v.hi.num.c) := cell_later hb (by simp [go_sem])
    have k0_6 : w1.cell? ⟨w.heap.size, 6, none⟩ = some (.bool v.hi.den.g) := cell_later hb (by simp [go_sem])
    have k0_7 : w1.cell? ⟨w.heap.size, 7, none⟩ = some (.slice v.hi.den.a v.hi.den.n v.hi.den.c) := cell_later hb (by simp [go_sem])
    have HB := hide (below_on (unhide B0) hb)
    clear hb
    go_wp2_with fail
    refine (unhide F2 _).mono ?_
    rintro e w2 ⟨rfl, hb⟩
    clear k0_4 k0_5 k0_6 k0_7
    replace HB := hide (below_on (unhide HB) hb)
    clear hb
    go_wp2
    go_ret
    exact ⟨rfl, unhide HB⟩

def RetSin (lo hi : Nat) (w : World) (U : SD → Bool → Prop) (e : Ending) (w' : World) : Prop := ∃ (v : SV) (d : SD) (ok : Bool), e = .returned (.tuple #[.agg #[.bool v.lo.num.g, .slice v.lo.num.a v.lo.num.n v.lo.num.c, .bool v.lo.den.g, .slice v.lo.den.a v.lo.den.n v.lo.den.c, .bool v.hi.num.g, .slice v.hi.num.a v.hi.num.n v.hi.num.c, .bool v.hi.den.g, .slice v.hi.den.a v.hi.den.n v.hi.den.c], .bool ok]) ∧ Below w.heap.size w w' ∧ AllOwn lo hi w' [(v.lo.num, d.lo.num), (v.lo.den, d.lo.den), (v.hi.num, d.hi.num), (v.hi.den, d.hi.den)] ∧ U d ok
set_option maxHeartbeats 2000000 in
theorem whereS_yes (v : SV) (d : SD) (lo hi : Nat) (w : World) (ho : AllOwn lo hi w [(v.lo.num, d.lo.num), (v.lo.den, d.lo.den), (v.hi.num, d.hi.num), (v.hi.den, d.hi.den)]) (hh : hi ≤ w.heap.size) (m1 : v.lo.den.n ≤ maxLen) (m2 : v.hi.den.n ≤ maxLen) (hf : decide ((v.lo.den.n ≠ 0 ∧ v.lo.num.n ≤ 40 ∧ v.lo.den.n ≤ 40) ∧ (v.hi.den.n ≠ 0 ∧ v.hi.num.n ≤ 40 ∧ v.hi.den.n ≤ 40)) = true) :
    Calls Try.prog 162 #[.agg #[.bool v.lo.num.g, .slice v.lo.num.a v.lo.num.n v.lo.num.c, .bool v.lo.den.g, .slice v.lo.den.a v.lo.den.n v.lo.den.c, .bool v.hi.num.g, .slice v.hi.num.a v.hi.num.n v.hi.num.c, .bool v.hi.den.g, .slice v.hi.den.a v.hi.den.n v.hi.den.c], .func (Fn.func 163) #[] #[]] w (RetSin lo hi w (fun d' ok => d' = d ∧ ok = true)) := by
  have HO := hide ho
  clear ho
  have HF := hide (fun w1 => spanFits_v v w1 m1 m2)
  rw [hf] at HF
  clear hf
  have B0 := hide (show Below w.heap.size w ((w.alloc (.cells #[.bool v.lo.num.g, .slice v.lo.num.a v.lo.num.n v.lo.num.c, .bool v.lo.den.g, .slice v.lo.den.a v.lo.den.n v.lo.den.c, .bool v.hi.num.g, .slice v.hi.num.a v.hi.num.n v.hi.num.c, .bool v.hi.den.g, .slice v.hi.den.a v.hi.den.n v.hi.den.c] 41)).alloc (.cells #[.bool false, .slice none 0 0, .bool false, .slice none 0 0, .bool false, .slice none 0 0, .bool false, .slice none 0 0] 41)) from (((Below.refl _ _).alloc (by simp) _).alloc (by simp) _))
  go_enter Try.func162, Try.ntmps162
  go_wp2_with fail
  refine (unhide HF _).mono ?_
  rintro e w1 ⟨rfl, hb⟩
  have s1 : w.heap.size + 1 < w1.heap.size := by have := hb.size; simp at this; omega
  have k0_0 : w1.cell? ⟨w.heap.size, 0, none⟩ = some (.bool v.lo.num.g) := cell_later hb (by simp [go_sem])
  have k0_1 : w1.cell? ⟨w.heap.size, 1, none⟩ = some (.slice v.lo.num.a v.lo.num.n v.lo.num.c) := cell_later hb (by simp [go_sem])
  have k0_2 : w1.cell? ⟨w.heap.size, 2, none⟩ = some (.bool v.lo.den.g) := cell_later hb (by simp [go_sem])
  have k0_3 : w1.cell? ⟨w.heap.size, 3, none⟩ = some (.slice v.lo.den.a v.lo.den.n v.lo.den.c) := cell_later hb (by simp [go_sem])
  have k0_4 : w1.cell? ⟨w.heap.size, 4, none⟩ = some (.bool v.hi.num.g) := cell_later hb (by simp [go_sem])
  have k0_5 : w1.cell? ⟨w.heap.size, 5, none⟩ = some (.slice v.hi.num.a v.hi.num.n v.hi.num.c) := cell_later hb (by simp [go_sem])
  have k0_6 : w1.cell? ⟨w.heap.size, 6, none⟩ = some (.bool v.hi.den.g) := cell_later hb (by simp [go_sem])
  have k0_7 : w1.cell? ⟨w.heap.size, 7, none⟩ = some (.slice v.hi.den.a v.hi.den.n v.hi.den.c) := cell_later hb (by simp [go_sem])
  have k1_0 : w1.cell? ⟨w.heap.size + 1, 0, none⟩ = some (.bool false) := cell_later hb (by simp [go_sem])
  have k1_1 : w1.cell? ⟨w.heap.size + 1, 1, none⟩ = some (.slice none 0 0) := cell_later hb (by simp [go_sem])
  have k1_2 : w1.cell? ⟨w.heap.size + 1, 2, none⟩ = some (.bool false) := cell_later hb (by simp [go_sem])
  have k1_3 : w1.cell? ⟨w.heap.size + 1, 3, none⟩ = some (.slice none 0 0) := cell_later hb (by simp [go_sem])
  have k1_4 : w1.cell? ⟨w.heap.size + 1, 4, none⟩ = some (.bool false) := cell_later hb (by simp [go_sem])
  have k1_5 : w1.cell? ⟨w.heap.size + 1, 5, none⟩ = some (.slice none 0 0) := cell_later hb (by simp [go_sem])
  have k1_6 : w1.cell? ⟨w.heap.size + 1, 6, none⟩ = some (.bool false) := cell_later hb (by simp [go_sem])
  have k1_7 : w1.cell? ⟨w.heap.size + 1, 7, none⟩ = some (.slice none 0 0) := cell_later hb (by simp [go_sem])
  have z1 : ∀ o, w1.frozen? ⟨w.heap.size + 1, o, none⟩ = false := fun o => frozen_later hb (by simp) (by simp [go_sem])
  have HB := hide (below_on (unhide B0) hb)
  clear hb
  go_wp2
  refine bodyPost_ret (v := .tuple #[.agg #[.bool v.lo.num.g, .slice v.lo.num.a v.lo.num.n v.lo.num.c, .bool v.lo.den.g, .slice v.lo.den.a v.lo.den.n v.lo.den.c, .bool v.hi.num.g, .slice v.hi.num.a v.hi.num.n v.hi.num.c, .bool v.hi.den.g, .slice v.hi.den.a v.hi.den.n v.hi.den.c], .bool true]) (by simp [results, Try.results162, go_sem, k1_0, k1_1, k1_2, k1_3, k1_4, k1_5, k1_6, k1_7]) rfl ?_
  have bt := metS_but (w5 := w1) (v := v) (G := w.heap.size + 1)
  exact ⟨v, d, true, rfl, bt.below (unhide HB) (by omega) (unhide HB).size, ((unhide HO).later (unhide HB)).but bt (.inl (by omega)), rfl, rfl⟩

set_option maxHeartbeats 2000000 in
theorem whereS_no (v : SV) (lo hi : Nat) (w : World) (m1 : v.lo.den.n ≤ maxLen) (m2 : v.hi.den.n ≤ maxLen) (hf : decide ((v.lo.den.n ≠ 0 ∧ v.lo.num.n ≤ 40 ∧ v.lo.den.n ≤ 40) ∧ (v.hi.den.n ≠ 0 ∧ v.hi.num.n ≤ 40 ∧ v.hi.den.n ≤ 40)) = false) :
    Calls Try.prog 162 #[.agg #[.bool v.lo.num.g, .slice v.lo.num.a v.lo.num.n v.lo.num.c, .bool v.lo.den.g, .slice v.lo.den.a v.lo.den.n v.lo.den.c, .bool v.hi.num.g, .slice v.hi.num.a v.hi.num.n v.hi.num.c, .bool v.hi.den.g, .slice v.hi.den.a v.hi.den.n v.hi.den.c], .func (Fn.func 163) #[] #[]] w (RetSin lo hi w (fun d' ok => d' = (⟨⟨⟨false, []⟩, ⟨false, []⟩⟩, ⟨⟨false, []⟩, ⟨false, []⟩⟩⟩ : SD) ∧ ok = false)) := by
  have HF := hide (fun w1 => spanFits_v v w1 m1 m2)
  rw [hf] at HF
  clear hf
  have B0 := hide (show Below w.heap.size w ((w.alloc (.cells #[.bool v.lo.num.g, .slice v.lo.num.a v.lo.num.n v.lo.num.c, .bool v.lo.den.g, .slice v.lo.den.a v.lo.den.n v.lo.den.c, .bool v.hi.num.g, .slice v.hi.num.a v.hi.num.n v.hi.num.c, .bool v.hi.den.g, .slice v.hi.den.a v.hi.den.n v.hi.den.c] 41)).alloc (.cells #[.bool false, .slice none 0 0, .bool false, .slice none 0 0, .bool false, .slice none 0 0, .bool false, .slice none 0 0] 41)) from (((Below.refl _ _).alloc (by simp) _).alloc (by simp) _))
  go_enter Try.func162, Try.ntmps162
  go_wp2_with fail
  refine (unhide HF _).mono ?_
  rintro e w1 ⟨rfl, hb⟩
  have s1 : w.heap.size + 1 < w1.heap.size := by have := hb.size; simp at this; omega
  have k1_0 : w1.cell? ⟨w.heap.size + 1, 0, none⟩ = some (.bool false) := cell_later hb (by simp [go_sem])
  have k1_1 : w1.cell? ⟨w.heap.size + 1, 1, none⟩ = some (.slice none 0 0) := cell_later hb (by simp [go_sem])
  have k1_2 : w1.cell? ⟨w.heap.size + 1, 2, none⟩ = some (.bool false) := cell_later hb (by simp [go_sem])
  have k1_3 : w1.cell? ⟨w.heap.size + 1, 3, none⟩ = some (.slice none 0 0) := cell_later hb (by simp [go_sem])
  have k1_4 : w1.cell? ⟨w.heap.size + 1, 4, none⟩ = some (.bool false) := cell_later hb (by simp [go_sem])
  have k1_5 : w1.cell? ⟨w.heap.size + 1, 5, none⟩ = some (.slice none 0 0) := cell_later hb (by simp [go_sem])
  have k1_6 : w1.cell? ⟨w.heap.size + 1, 6, none⟩ = some (.bool false) := cell_later hb (by simp [go_sem])
  have k1_7 : w1.cell? ⟨w.heap.size + 1, 7, none⟩ = some (.slice none 0 0) := cell_later hb (by simp [go_sem])
  have z1 : ∀ o, w1.frozen? ⟨w.heap.size + 1, o, none⟩ = false := fun o => frozen_later hb (by simp) (by simp [go_sem])
  have HB := hide (below_on (unhide B0) hb)
  clear hb
  go_upto_region 3 with fail
  have hb : Below w1.heap.size w1 (w1.alloc (.cells #[.bool false, .slice none 0 0, .bool false, .slice none 0 0, .bool false, .slice none 0 0, .bool false, .slice none 0 0] 41)) := ((Below.refl _ _).alloc (by simp) _)
  have k2_0 : (w1.alloc (.cells #[.bool false, .slice none 0 0, .bool false, .slice none 0 0, .bool false, .slice none 0 0, .bool false, .slice none 0 0] 41)).cell? ⟨w1.heap.size, 0, none⟩ = some (.bool false) := by simp [go_sem]
  have k2_1 : (w1.alloc (.cells #[.bool false, .slice none 0 0, .bool false, .slice none 0 0, .bool false, .slice none 0 0, .bool false, .slice none 0 0] 41)).cell? ⟨w1.heap.size, 1, none⟩ = some (.slice none 0 0) := by simp [go_sem]
  have k2_2 : (w1.alloc (.cells #[.bool false, .slice none 0 0, .bool false, .slice none 0 0, .bool false, .slice none 0 0, .bool false, .slice none 0 0] 41)).cell? ⟨w1.heap.size, 2, none⟩ = some (.bool false) := by simp [go_sem]
  have k2_3 : (w1.alloc (.cells #[.bool false, .slice none 0 0, .bool false, .slice none 0 0, .bool false, .slice none 0 0, .bool false, .slice none 0 0] 41)).cell? ⟨w1.heap.size, 3, none⟩ = some (.slice none 0 0) := by simp [go_sem]
  have k2_4 : (w1.alloc (.cells #[.bool false, .slice none 0 0, .bool false, .slice none 0 0, .bool false, .slice none 0 0, .bool false, .slice none 0 0] 41)).cell? ⟨w1.heap.size, 4, none⟩ = some (.bool false) := by simp [go_sem]
  have k2_5 : (w1.alloc (.cells #[.bool false, .slice none 0 0, .bool false, .slice none 0 0, .bool false, .slice none 0 0, .bool false, .slice none 0 0] 41)).cell? ⟨w1.heap.size, 5, none⟩ = some (.slice none 0 0) := by simp [go_sem]
  have k2_6 : (w1.alloc (.cells #[.bool false, .slice none 0 0, .bool false, .slice none 0 0, .bool false, .slice none 0 0, .bool false, .slice none 0 0] 41)).cell? ⟨w1.heap.size, 6, none⟩ = some (.bool false) := by simp [go_sem]
  have k2_7 : (w1.alloc (.cells #[.bool false, .slice none 0 0, .bool false, .slice none 0 0, .bool false, .slice none 0 0, .bool false, .slice none 0 0] 41)).cell? ⟨w1.heap.size, 7, none⟩ = some (.slice none 0 0) := by simp [go_sem]
  replace k1_0 : (w1.alloc (.cells #[.bool false, .slice none 0 0, .bool false, .slice none 0 0, .bool false, .slice none 0 0, .bool false, .slice none 0 0] 41)).cell? ⟨w.heap.size + 1, 0, none⟩ = some (.bool false) := (ca_other k1_0)
  replace k1_1 : (w1.alloc (.cells #[.bool false, .slice none 0 0, .bool false, .slice none 0 0, .bool false, .slice none 0 0, .bool false, .slice none 0 0] 41)).cell? ⟨w.heap.size + 1, 1, none⟩ = some (.slice none 0 0) := (ca_other k1_1)
  replace k1_2 : (w1.alloc (.cells #[.bool false, .slice none 0 0, .bool false, .slice none 0 0, .bool false, .slice none 0 0, .bool false, .slice none 0 0] 41)).cell? ⟨w.heap.size + 1, 2, none⟩ = some (.bool false) := (ca_other k1_2)
  replace k1_3 : (w1.alloc (.cells #[.bool false, .slice none 0 0, .bool false, .slice none 0 0, .bool false, .slice none 0 0, .bool false, .slice none 0 0] 41)).cell? ⟨w.heap.size + 1, 3, none⟩ = some (.slice none 0 0) := (ca_other k1_3)
  replace k1_4 : (w1.alloc (.cells #[.bool false, .slice none 0 0, .bool false, .slice none 0 0, .bool false, .slice none 0 0, .bool false, .slice none 0 0] 41)).cell? ⟨w.heap.size + 1, 4, none⟩ = some (.bool false) := (ca_other k1_4)
  replace k1_5 : (w1.alloc (.cells #[.bool false, .slice none 0 0, .bool false, .slice none 0 0, .bool false, .slice none 0 0, .bool false, .slice none 0 0] 41)).cell? ⟨w.heap.size + 1, 5, none⟩ = some (.slice none 0 0) := (ca_other k1_5)
  replace k1_6 : (w1.alloc (.cells #[.bool false, .slice none 0 0, .bool false, .slice none 0 0, .bool false, .slice none 0 0, .bool false, .slice none 0 0] 41)).cell? ⟨w.heap.size + 1, 6, none⟩ = some (.bool false) := (ca_other k1_6)
  replace k1_7 : (w1.alloc (.cells #[.bool false, .slice none 0 0, .bool false, .slice none 0 0, .bool false, .slice none 0 0, .bool false, .slice none 0 0] 41)).cell? ⟨w.heap.size + 1, 7, none⟩ = some (.slice none 0 0) := (ca_other k1_7)
  replace z1 : ∀ o, (w1.alloc (.cells #[.bool false, .slice none 0 0, .bool false, .slice none 0 0, .bool false, .slice none 0 0, .bool false, .slice none 0 0] 41)).frozen? ⟨w.heap.size + 1, o, none⟩ = false := fun o => frozen_later hb (by omega) (z1 o)
  replace HB := hide (below_on (unhide HB) hb)
  have szw2 := hb.size
  clear hb
  generalize (w1.alloc (.cells #[.bool false, .slice none 0 0, .bool false, .slice none 0 0, .bool false, .slice none 0 0, .bool false, .slice none 0 0] 41)) = w2 at *
  go_wp2
  refine bodyPost_ret (v := .tuple #[.agg #[.bool false, .slice none 0 0, .bool false, .slice none 0 0, .bool false, .slice none 0 0, .bool false, .slice none 0 0], .bool false]) (by simp [results, Try.results162, go_sem, k1_0, k1_1, k1_2, k1_3, k1_4, k1_5, k1_6, k1_7]) rfl ?_
  have bt := metS_but (w5 := w2) (v := (⟨⟨⟨false, none, 0, 0⟩, ⟨false, none, 0, 0⟩⟩, ⟨⟨false, none, 0, 0⟩, ⟨false, none, 0, 0⟩⟩⟩ : SV)) (G := w.heap.size + 1)
  exact ⟨(⟨⟨⟨false, none, 0, 0⟩, ⟨false, none, 0, 0⟩⟩, ⟨⟨false, none, 0, 0⟩, ⟨false, none, 0, 0⟩⟩⟩ : SV), (⟨⟨⟨false, []⟩, ⟨false, []⟩⟩, ⟨⟨false, []⟩, ⟨false, []⟩⟩⟩ : SD), false, rfl, bt.below (unhide HB) (by omega) (unhide HB).size, zeroS _ _ _, rfl, rfl⟩

theorem whereS (v : SV) (N D N' D' : Int) (xs us ys vs : List Int) (lo hi : Nat) (w : World) (ho : AllOwn lo hi w [(v.lo.num, ⟨decide (N < 0), xs⟩), (v.lo.den, ⟨decide (D < 0), us⟩), (v.hi.num, ⟨decide (N' < 0), ys⟩), (v.hi.den, ⟨decide (D' < 0), vs⟩)]) (hh : hi ≤ w.heap.size) (m1 : v.lo.den.n ≤ maxLen) (m2 : v.hi.den.n ≤ maxLen) (n1 : Nm xs N.natAbs) (n2 : Nm us D.natAbs) (n3 : Nm ys N'.natAbs) (n4 : Nm vs D'.natAbs) (hD : D ≠ 0) (hD' : D' ≠ 0) :
    Calls Try.prog 162 #[.agg #[.bool v.lo.num.g, .slice v.lo.num.a v.lo.num.n v.lo.num.c, .bool v.lo.den.g, .slice v.lo.den.a v.lo.den.n v.lo.den.c, .bool v.hi.num.g, .slice v.hi.num.a v.hi.num.n v.hi.num.c, .bool v.hi.den.g, .slice v.hi.den.a v.hi.den.n v.hi.den.c], .func (Fn.func 163) #[] #[]] w (RetSin lo hi w (AnsS true N D N' D')) := by
  have e1 : xs.length = v.lo.num.n := (ho.own (v.lo.num, ⟨decide (N < 0), xs⟩) (by simp)).len
  have e2 : us.length = v.lo.den.n := (ho.own (v.lo.den, ⟨decide (D < 0), us⟩) (by simp)).len
  have e3 : ys.length = v.hi.num.n := (ho.own (v.hi.num, ⟨decide (N' < 0), ys⟩) (by simp)).len
  have e4 : vs.length = v.hi.den.n := (ho.own (v.hi.den, ⟨decide (D' < 0), vs⟩) (by simp)).len
  have z1 : v.lo.den.n ≠ 0 := fun e => by have := n2.nil_iff.1 (List.length_eq_zero_iff.1 (e2.trans e)); omega
  have z2 : v.hi.den.n ≠ 0 := fun e => by have := n4.nil_iff.1 (List.length_eq_zero_iff.1 (e4.trans e)); omega
  by_cases hf : (v.lo.num.n ≤ 40 ∧ v.lo.den.n ≤ 40) ∧ (v.hi.num.n ≤ 40 ∧ v.hi.den.n ≤ 40)
  · refine (whereS_yes v ⟨⟨⟨decide (N < 0), xs⟩, ⟨decide (D < 0), us⟩⟩, ⟨⟨decide (N' < 0), ys⟩, ⟨decide (D' < 0), vs⟩⟩⟩ lo hi w ho hh m1 m2 (decide_eq_true ⟨⟨z1, hf.1⟩, ⟨z2, hf.2⟩⟩)).mono ?_
    rintro e w' ⟨u, d, ok, rfl, hb, hv, rfl, rfl⟩
    exact ⟨u, _, _, rfl, hb, hv, .inl ⟨rfl, xs, us, ys, vs, n1, n2, n3, n4, .inl ⟨by omega, by omega, rfl, rfl⟩⟩⟩
  · refine (whereS_no v lo hi w m1 m2 (decide_eq_false (fun h => hf ⟨h.1.2, h.2.2⟩))).mono ?_
    rintro e w' ⟨u, d, ok, rfl, hb, hv, rfl, rfl⟩
    exact ⟨u, _, _, rfl, hb, hv, .inl ⟨rfl, xs, us, ys, vs, n1, n2, n3, n4, .inr ⟨by rw [e1, e2, e3, e4]; exact hf, rfl, rfl⟩⟩⟩

set_option maxHeartbeats 2000000 in
theorem bothSS (v u : SV) (d e : SD) (w : World) (h : AllAr w [(v.lo.num, d.lo.num), (v.lo.den, d.lo.den), (v.hi.num, d.hi.num), (v.hi.den, d.hi.den)]) (h' : AllAr w [(u.lo.num, e.lo.num), (u.lo.den, e.lo.den), (u.hi.num, e.hi.num), (u.hi.den, e.hi.den)]) : Calls Try.prog 98 #[.agg #[.bool v.lo.num.g, .slice v.lo.num.a v.lo.num.n v.lo.num.c, .bool v.lo.den.g, .slice v.lo.den.a v.lo.den.n v.lo.den.c, .bool v.hi.num.g, .slice v.hi.num.a v.hi.num.n v.hi.num.c, .bool v.hi.den.g, .slice v.hi.den.a v.hi.den.n v.hi.den.c], .agg #[.bool u.lo.num.g, .slice u.lo.num.a u.lo.num.n u.lo.num.c, .bool u.lo.den.g, .slice u.lo.den.a u.lo.den.n u.lo.den.c, .bool u.hi.num.g, .slice u.hi.num.a u.hi.num.n u.hi.num.c, .bool u.hi.den.g, .slice u.hi.den.a u.hi.den.n u.hi.den.c]] w fun r w' => r = .returned (.bool (gS d && gS e)) ∧ Below w.heap.size w w' := by
  have H1 := hide h
  have H2 := hide h'
  clear h h'
  cases hg1 : gS d
  · have G1 := hide (fun w1 (k : AllAr w1 [(v.lo.num, d.lo.num), (v.lo.den, d.lo.den), (v.hi.num, d.hi.num), (v.hi.den, d.hi.den)]) => goodSS v d w1 k)
    rw [hg1] at G1
    rw [Bool.false_and]
    clear hg1
    have B0 := hide (show Below w.heap.size w ((w.alloc (.cells #[.bool v.lo.num.g, .slice v.lo.num.a v.lo.num.n v.lo.num.c, .bool v.lo.den.g, .slice v.lo.den.a v.lo.den.n v.lo.den.c, .bool v.hi.num.g, .slice v.hi.num.a v.hi.num.n v.hi.num.c, .bool v.hi.den.g, .slice v.hi.den.a v.hi.den.n v.hi.den.c] 41)).alloc (.cells #[.bool u.lo.num.g, .slice u.lo.num.a u.lo.num.n u.lo.num.c, .bool u.lo.den.g, .slice u.lo.den.a u.lo.den.n u.lo.den.c, .bool u.hi.num.g, .slice u.hi.num.a u.hi.num.n u.hi.num.c, .bool u.hi.den.g, .slice u.hi.den.a u.hi.den.n u.hi.den.c] 41)) from (((Below.refl _ _).alloc (by simp) _).alloc (by simp) _))
    go_enter Try.func98, Try.ntmps98
    go_wp2_with fail
    refine (unhide G1 _ ((unhide H1).later (unhide B0))).mono ?_
    rintro e w1 ⟨rfl, hb⟩
    have HB := hide (below_on (unhide B0) hb)
    clear hb
    go_wp2
    go_ret
    exact ⟨rfl, unhide HB⟩
  · have G1 := hide (fun w1 (k : AllAr w1 [(v.lo.num, d.lo.num), (v.lo.den, d.lo.den), (v.hi.num, d.hi.num), (v.hi.den, d.hi.den)]) => goodSS v d w1 k)
    rw [hg1] at G1
    have G2 := hide (fun w1 (k : AllAr w1 [(u.lo.num, e.lo.num), (u.lo.den, e.lo.den), (u.hi.num, e.hi.num), (u.hi.den, e.hi.den)]) => goodSS u e w1 k)
    rw [Bool.true_and]
    clear hg1
    have B0 := hide (show Below w.heap.size w ((w.alloc (.cells #[.bool v.lo.num.g, .slice v.lo.num.a v.lo.num.n v.lo.num.c, .bool v.lo.den.g, .slice v.lo.den.a v.lo.den.n v.lo.den.c, .bool v.hi.num.g, .slice v.hi.num.a v.hi.num.n v.hi.num.c, .bool v.hi.den.g, .slice v.hi.den.a v.hi.den.n v.hi.den.c] 41)).alloc (.cells #[.bool u.lo.num.g, .slice u.lo.num.a u.lo.num.n u.lo.num.c, .bool u.lo.den.g, .slice u.lo.den.a u.lo.den.n u.lo.den.c, .bool u.hi.num.g, .slice u.hi.num.a u.hi.num.n u.hi.num.c, .bool u.hi.den.g, .slice u.hi.den.a u.hi.den.n u.hi.den.c] 41)) from (((Below.refl _ _).alloc (by simp) _).alloc (by simp) _))
    go_enter Try.func98, Try.ntmps98
    go_wp2_with fail
    refine (unhide G1 _ ((unhide H1).later (unhide B0))).mono ?_
    rintro e w1 ⟨rfl, hb⟩
    have k1_0 : w1.cell? ⟨w.heap.size + 1, 0, none⟩ = some (.bool u.lo.num.g) := cell_later hb (by simp [go_sem])
    have k1_1 : w1.cell? ⟨w.heap.size + 1, 1, none⟩ = some (.slice u.lo.num.a u.lo.num.n u.lo.num.c) := cell_later hb (by simp [go_sem])
    have k1_2 : w1.cell? ⟨w.heap.size + 1, 2, none⟩ = some (.bool u.lo.den.g) := cell_later hb (by simp [go_sem])
    have k1_3 : w1.cell? ⟨w.heap.size + 1, 3, none⟩ = some (.slice u.lo.den.a u.lo.den.n u.lo.den.c) := cell_later hb (by simp [go_sem])
    have k1_4 : w1.cell? ⟨w.heap.size + 1, 4, none⟩ = some (.bool u.hi.num.g) := cell_later hb (by simp [go_sem])
    have k1_5 : w1.cell? ⟨w.heap.size + 1, 5, none⟩ = some (.slice u.hi.num.a u.hi.num.n u.hi.num.c) := cell_later hb (by simp [go_sem])
    have k1_6 : w1.cell? ⟨w.heap.size + 1, 6, none⟩ = some (.bool u.hi.den.g) := cell_later hb (by simp [go_sem])
    have k1_7 : w1.cell? ⟨w.heap.size + 1, 7, none⟩ = some (.slice u.hi.den.a u.hi.den.n u.hi.den.c) := cell_later hb (by simp [go_sem])
    have HB := hide (below_on (unhide B0) hb)
    clear hb
    go_wp2_with fail
    refine (unhide G2 _ ((unhide H2).later (unhide HB))).mono ?_
    rintro e w2 ⟨rfl, hb⟩
    clear k1_0 k1_1 k1_2 k1_3 k1_4 k1_5 k1_6 k1_7
    replace HB := hide (below_on (unhide HB) hb)
    clear hb
    go_wp2
    go_ret
    exact ⟨rfl, unhide HB⟩
end Go.Proofs.Ytlmeokeanihhoaa
namespace Go.Proofs.Ytlmeokeanihhoaa
open Go.RowKit
set_option linter.unusedVariables false
set_option maxRecDepth 100000
set_option linter.unusedSimpArgs false

/-- The box of the span so far. -/
structure Ls3 (w wr : World) (G : Nat) (q1 q2 : QV) : Prop where
  a0 : wr.cell? ⟨G, 0, none⟩ = some (.bool q1.num.g)
  a1 : wr.cell? ⟨G, 1, none⟩ = some (.slice q1.num.a q1.num.n q1.num.c)
  a2 : wr.cell? ⟨G, 2, none⟩ = some (.bool q1.den.g)
  a3 : wr.cell? ⟨G, 3, none⟩ = some (.slice q1.den.a q1.den.n q1.den.c)
  b0 : wr.cell? ⟨G, 4, none⟩ = some (.bool q2.num.g)
  b1 : wr.cell? ⟨G, 5, none⟩ = some (.slice q2.num.a q2.num.n q2.num.c)
  b2 : wr.cell? ⟨G, 6, none⟩ = some (.bool q2.den.g)
  b3 : wr.cell? ⟨G, 7, none⟩ = some (.slice q2.den.a q2.den.n q2.den.c)
  f1 : ∀ o, wr.frozen? ⟨G, o, none⟩ = false
  r0 : wr.cell? ⟨w.heap.size, 0, none⟩ = some (.bool false)
  r1 : wr.cell? ⟨w.heap.size, 1, none⟩ = some (.slice none 0 0)
  r2 : wr.cell? ⟨w.heap.size, 2, none⟩ = some (.bool false)
  r3 : wr.cell? ⟨w.heap.size, 3, none⟩ = some (.slice none 0 0)
  r4 : wr.cell? ⟨w.heap.size, 4, none⟩ = some (.bool false)
  r5 : wr.cell? ⟨w.heap.size, 5, none⟩ = some (.slice none 0 0)
  r6 : wr.cell? ⟨w.heap.size, 6, none⟩ = some (.bool false)
  r7 : wr.cell? ⟨w.heap.size, 7, none⟩ = some (.slice none 0 0)
  fr : ∀ o, wr.frozen? ⟨w.heap.size, o, none⟩ = false
  bel : Below w.heap.size w wr
theorem Ls3.later {w wr wy : World} {G : Nat} {q1 q2 : QV} (h : Ls3 w wr G q1 q2) (hb : Below wr.heap.size wr wy) : Ls3 w wy G q1 q2 :=
  ⟨cell_later hb h.a0, cell_later hb h.a1, cell_later hb h.a2, cell_later hb h.a3, cell_later hb h.b0, cell_later hb h.b1, cell_later hb h.b2, cell_later hb h.b3, fun o => frozen_later hb (World.block_lt_of_cell? _ _ h.a0) (h.f1 o), cell_later hb h.r0, cell_later hb h.r1, cell_later hb h.r2, cell_later hb h.r3, cell_later hb h.r4, cell_later hb h.r5, cell_later hb h.r6, cell_later hb h.r7, fun o => frozen_later hb (World.block_lt_of_cell? _ _ h.r0) (h.fr o), below_on h.bel hb⟩
theorem Ls3.set1 {w wr : World} {G : Nat} {q1 q2 q : QV} (h : Ls3 w wr G q1 q2) (g1 : w.heap.size < G) : Ls3 w ((((wr.setCell ⟨G, 0, none⟩ (.bool q.num.g)).setCell ⟨G, 1, none⟩ (.slice q.num.a q.num.n q.num.c)).setCell ⟨G, 2, none⟩ (.bool q.den.g)).setCell ⟨G, 3, none⟩ (.slice q.den.a q.den.n q.den.c)) G q q2 :=
  ⟨by simp [go_sem, h.a0, h.a1, h.a2, h.a3, h.b0, h.b1, h.b2, h.b3], by simp [go_sem, h.a0, h.a1, h.a2, h.a3, h.b0, h.b1, h.b2, h.b3], by simp [go_sem, h.a0, h.a1, h.a2, h.a3, h.b0, h.b1, h.b2, h.b3], by simp [go_sem, h.a0, h.a1, h.a2, h.a3, h.b0, h.b1, h.b2, h.b3], by simp [go_sem, h.a0, h.a1, h.a2, h.a3, h.b0, h.b1, h.b2, h.b3], by simp [go_sem, h.a0, h.a1, h.a2, h.a3, h.b0, h.b1, h.b2, h.b3], by simp [go_sem, h.a0, h.a1, h.a2, h.a3, h.b0, h.b1, h.b2, h.b3], by simp [go_sem, h.a0, h.a1, h.a2, h.a3, h.b0, h.b1, h.b2, h.b3], fun o => by simp [go_sem, h.f1 o], cs_other (cs_other (cs_other (cs_other h.r0 (by omega)) (by omega)) (by omega)) (by omega), cs_other (cs_other (cs_other (cs_other h.r1 (by omega)) (by omega)) (by omega)) (by omega), cs_other (cs_other (cs_other (cs_other h.r2 (by omega)) (by omega)) (by omega)) (by omega), cs_other (cs_other (cs_other (cs_other h.r3 (by omega)) (by omega)) (by omega)) (by omega), cs_other (cs_other (cs_other (cs_other h.r4 (by omega)) (by omega)) (by omega)) (by omega), cs_other (cs_other (cs_other (cs_other h.r5 (by omega)) (by omega)) (by omega)) (by omega), cs_other (cs_other (cs_other (cs_other h.r6 (by omega)) (by omega)) (by omega)) (by omega), cs_other (cs_other (cs_other (cs_other h.r7 (by omega)) (by omega)) (by omega)) (by omega), fun o => by simp [go_sem, h.fr o], ((((h.bel.setCell (by show w.heap.size ≤ G; omega) _).setCell (by show w.heap.size ≤ G; omega) _).setCell (by show w.heap.size ≤ G; omega) _).setCell (by show w.heap.size ≤ G; omega) _)⟩
theorem Ls3.set2 {w wr : World} {G : Nat} {q1 q2 q : QV} (h : Ls3 w wr G q1 q2) (g1 : w.heap.size < G) : Ls3 w ((((wr.setCell ⟨G, 4, none⟩ (.bool q.num.g)).setCell ⟨G, 5, none⟩ (.slice q.num.a q.num.n q.num.c)).setCell ⟨G, 6, none⟩ (.bool q.den.g)).setCell ⟨G, 7, none⟩ (.slice q.den.a q.den.n q.den.c)) G q1 q :=
  ⟨by simp [go_sem, h.a0, h.a1, h.a2, h.a3, h.b0, h.b1, h.b2, h.b3], by simp [go_sem, h.a0, h.a1, h.a2, h.a3, h.b0, h.b1, h.b2, h.b3], by simp [go_sem, h.a0, h.a1, h.a2, h.a3, h.b0, h.b1, h.b2, h.b3], by simp [go_sem, h.a0, h.a1, h.a2, h.a3, h.b0, h.b1, h.b2, h.b3], by simp [go_sem, h.a0, h.a1, h.a2, h.a3, h.b0, h.b1, h.b2, h.b3], by simp [go_sem, h.a0, h.a1, h.a2, h.a3, h.b0, h.b1, h.b2, h.b3], by simp [go_sem, h.a0, h.a1, h.a2, h.a3, h.b0, h.b1, h.b2, h.b3], by simp [go_sem, h.a0, h.a1, h.a2, h.a3, h.b0, h.b1, h.b2, h.b3], fun o => by simp [go_sem, h.f1 o], cs_other (cs_other (cs_other (cs_other h.r0 (by omega)) (by omega)) (by omega)) (by omega), cs_other (cs_other (cs_other (cs_other h.r1 (by omega)) (by omega)) (by omega)) (by omega), cs_other (cs_other (cs_other (cs_other h.r2 (by omega)) (by omega)) (by omega)) (by omega), cs_other (cs_other (cs_other (cs_other h.r3 (by omega)) (by omega)) (by omega)) (by omega), cs_other (cs_other (cs_other (cs_other h.r4 (by omega)) (by omega)) (by omega)) (by omega), cs_other (cs_other (cs_other (cs_other h.r5 (by omega)) (by omega)) (by omega)) (by omega), cs_other (cs_other (cs_other (cs_other h.r6 (by omega)) (by omega)) (by omega)) (by omega), cs_other (cs_other (cs_other (cs_other h.r7 (by omega)) (by omega)) (by omega)) (by omega), fun o => by simp [go_sem, h.fr o], ((((h.bel.setCell (by show w.heap.size ≤ G; omega) _).setCell (by show w.heap.size ≤ G; omega) _).setCell (by show w.heap.size ≤ G; omega) _).setCell (by show w.heap.size ≤ G; omega) _)⟩

/-- A call answers what reads as a span. -/
def OutSv (w : World) (N D N' D' : Int) (e : Ending) (w' : World) : Prop := ∃ v : SV, e = .returned (.agg #[.bool v.lo.num.g, .slice v.lo.num.a v.lo.num.n v.lo.num.c, .bool v.lo.den.g, .slice v.lo.den.a v.lo.den.n v.lo.den.c, .bool v.hi.num.g, .slice v.hi.num.a v.hi.num.n v.hi.num.c, .bool v.hi.den.g, .slice v.hi.den.a v.hi.den.n v.hi.den.c]) ∧ Below w.heap.size w w' ∧ IsQ w' v.lo N D ∧ IsQ w' v.hi N' D'
set_option maxHeartbeats 8000000 in
theorem l3Of_v (x : RQ) (b off n c : Nat) (l : List RQ) (w : World) (jx : RQ.Is w x) (hl : Rats w b off l) (hn : l.length = n) (h1 : n ≤ 1000) (hp : 1 ≤ n) (h0 : w.cell? ⟨b, off, none⟩ = some (.bool x.q.num.g) ∧ w.cell? ⟨b, off + 1, none⟩ = some (.slice x.q.num.a x.q.num.n x.q.num.c) ∧ w.cell? ⟨b, off + 2, none⟩ = some (.bool x.q.den.g) ∧ w.cell? ⟨b, off + 3, none⟩ = some (.slice x.q.den.a x.q.den.n x.q.den.c)) :
    Calls Try.prog 103 #[.slice (some ⟨b, off, none⟩) n c] w (OutSv w (l.foldl stLo x).N (l.foldl stLo x).D (l.foldl stHi x).N (l.foldl stHi x).D) := by
  have HL := hide hl
  have HN := hide hn
  have H0 := hide h0
  have JX := hide jx
  clear hl hn h0 jx
  have p0 : 0 < n := by omega
  go_enter Try.func103, Try.ntmps103
  go_upto_region 1 with fail
  have hb : Below w.heap.size w (w.alloc (.cells #[.bool false, .slice none 0 0, .bool false, .slice none 0 0, .bool false, .slice none 0 0, .bool false, .slice none 0 0] 41)) := ((Below.refl _ _).alloc (by simp) _)
  have k0_0 : (w.alloc (.cells #[.bool false, .slice none 0 0, .bool false, .slice none 0 0, .bool false, .slice none 0 0, .bool false, .slice none 0 0] 41)).cell? ⟨w.heap.size, 0, none⟩ = some (.bool false) := by simp [go_sem]
  have k0_1 : (w.alloc (.cells #[.bool false, .slice none 0 0, .bool false, .slice none 0 0, .bool false, .slice none 0 0, .bool false, .slice none 0 0] 41)).cell? ⟨w.heap.size, 1, none⟩ = some (.slice none 0 0) := by simp [go_sem]
  have k0_2 : (w.alloc (.cells #[.bool false, .slice none 0 0, .bool false, .slice none 0 0, .bool false, .slice none 0 0, .bool false, .slice none 0 0] 41)).cell? ⟨w.heap.size, 2, none⟩ = some (.bool false) := by simp [go_sem]
  have k0_3 : (w.alloc (.cells #[.bool false, .slice none 0 0, .bool false, .slice none 0 0, .bool false, .slice none 0 0, .bool false, .slice none 0 0] 41)).cell? ⟨w.heap.size, 3, none⟩ = some (.slice none 0 0) := by simp [go_sem]
  have k0_4 : (w.alloc (.cells #[.bool false, .slice none 0 0, .bool false, .slice none 0 0, .bool false, .slice none 0 0, .bool false, .slice none 0 0] 41)).cell? ⟨w.heap.size, 4, none⟩ = some (.bool false) := by simp [go_sem]
  have k0_5 : (w.alloc (.cells #[.bool false, .slice none 0 0, .bool false, .slice none 0 0, .bool false, .slice none 0 0, .bool false, .slice none 0 0] 41)).cell? ⟨w.heap.size, 5, none⟩ = some (.slice none 0 0) := by simp [go_sem]
  have k0_6 : (w.alloc (.cells #[.bool false, .slice none 0 0, .bool false, .slice none 0 0, .bool false, .slice none 0 0, .bool false, .slice none 0 0] 41)).cell? ⟨w.heap.size, 6, none⟩ = some (.bool false) := by simp [go_sem]
  have k0_7 : (w.alloc (.cells #[.bool false, .slice none 0 0, .bool false, .slice none 0 0, .bool false, .slice none 0 0, .bool false, .slice none 0 0] 41)).cell? ⟨w.heap.size, 7, none⟩ = some (.slice none 0 0) := by simp [go_sem]
  have z0 : ∀ o, (w.alloc (.cells #[.bool false, .slice none 0 0, .bool false, .slice none 0 0, .bool false, .slice none 0 0, .bool false, .slice none 0 0] 41)).frozen? ⟨w.heap.size, o, none⟩ = false := fun o => by simp [go_sem]
  have szw0 : w.heap.size + 1 ≤ (w.alloc (.cells #[.bool false, .slice none 0 0, .bool false, .slice none 0 0, .bool false, .slice none 0 0, .bool false, .slice none 0 0] 41)).heap.size := by simp
  have HB := hide hb
  clear hb
  generalize (w.alloc (.cells #[.bool false, .slice none 0 0, .bool false, .slice none 0 0, .bool false, .slice none 0 0, .bool false, .slice none 0 0] 41)) = w0 at *
  have E0 : w0.cell? ⟨b, off, none⟩ = some (.bool x.q.num.g) := ((unhide HB).cell (p := ⟨b, off, none⟩) (unhide HL).lt).trans (unhide H0).1
  have E1 : w0.cell? ⟨b, off + 1, none⟩ = some (.slice x.q.num.a x.q.num.n x.q.num.c) := ((unhide HB).cell (p := ⟨b, off + 1, none⟩) (unhide HL).lt).trans (unhide H0).2.1
  have E2 : w0.cell? ⟨b, off + 2, none⟩ = some (.bool x.q.den.g) := ((unhide HB).cell (p := ⟨b, off + 2, none⟩) (unhide HL).lt).trans (unhide H0).2.2.1
  have E3 : w0.cell? ⟨b, off + 3, none⟩ = some (.slice x.q.den.a x.q.den.n x.q.den.c) := ((unhide HB).cell (p := ⟨b, off + 3, none⟩) (unhide HL).lt).trans (unhide H0).2.2.2
  go_cut [3] (fun p wx => ∃ (G : Nat), p = .pointer (some ⟨G, 0, none⟩) ∧ w0.heap.size ≤ G ∧ Hid (Ls3 w wx G x.q x.q))
  case first =>
    go_region_held3 (fun w' => w'.cell? ⟨b, off, none⟩ = some (.bool x.q.num.g) ∧ w'.cell? ⟨b, off + 1, none⟩ = some (.slice x.q.num.a x.q.num.n x.q.num.c) ∧ w'.cell? ⟨b, off + 2, none⟩ = some (.bool x.q.den.g) ∧ w'.cell? ⟨b, off + 3, none⟩ = some (.slice x.q.den.a x.q.den.n x.q.den.c)) (first | (with_reducible exact ⟨E0, E1, E2, E3⟩) | (with_reducible exact ⟨cd_other (E0), cd_other (E1), cd_other (E2), cd_other (E3)⟩) | (with_reducible exact ⟨ca_other (E0), ca_other (E1), ca_other (E2), ca_other (E3)⟩) | (with_reducible exact ⟨cd_other (ca_other (E0)), cd_other (ca_other (E1)), cd_other (ca_other (E2)), cd_other (ca_other (E3))⟩) | (with_reducible exact ⟨ca_other (cd_other (E0)), ca_other (cd_other (E1)), ca_other (cd_other (E2)), ca_other (cd_other (E3))⟩) | (refine ⟨?_, ?_, ?_, ?_⟩ <;> (simp [go_sem, E0, E1, E2, E3]; done)) | fail) (fail)
    all_goals go_wp2_with fail
    all_goals go_meet
    all_goals have bb : Below w0.heap.size w0 (w0.alloc (.cells #[.bool x.q.num.g, .slice x.q.num.a x.q.num.n x.q.num.c, .bool x.q.den.g, .slice x.q.den.a x.q.den.n x.q.den.c, .bool x.q.num.g, .slice x.q.num.a x.q.num.n x.q.num.c, .bool x.q.den.g, .slice x.q.den.a x.q.den.n x.q.den.c] 41)) := (Below.refl _ _).alloc (Nat.le_refl _) _
    all_goals refine ⟨_, rfl, ?_, hide ⟨?_, ?_, ?_, ?_, ?_, ?_, ?_, ?_, ?_, ?_, ?_, ?_, ?_, ?_, ?_, ?_, ?_, ?_, ?_⟩⟩
    all_goals first | (simp [go_sem]; done) | (intro o; simp [go_sem]; done) | with_reducible exact cell_later bb k0_0 | with_reducible exact cell_later bb k0_1 | with_reducible exact cell_later bb k0_2 | with_reducible exact cell_later bb k0_3 | with_reducible exact cell_later bb k0_4 | with_reducible exact cell_later bb k0_5 | with_reducible exact cell_later bb k0_6 | with_reducible exact cell_later bb k0_7 | with_reducible exact cell_later bb.drew k0_0 | with_reducible exact cell_later bb.drew k0_1 | with_reducible exact cell_later bb.drew k0_2 | with_reducible exact cell_later bb.drew k0_3 | with_reducible exact cell_later bb.drew k0_4 | with_reducible exact cell_later bb.drew k0_5 | with_reducible exact cell_later bb.drew k0_6 | with_reducible exact cell_later bb.drew k0_7 | exact (fun o => frozen_later bb (World.block_lt_of_cell? _ _ k0_0) (z0 o)) | exact (fun o => frozen_later bb.drew (World.block_lt_of_cell? _ _ k0_0) (z0 o)) | exact below_on (unhide HB) bb | exact below_on (unhide HB) bb.drew
  case rest =>
    obtain ⟨G, rfl, gg, L0⟩ := hcut
    have g1 : w.heap.size < G := by omega
    clear E0 E1 E2 E3 k0_0 k0_1 k0_2 k0_3 k0_4 k0_5 k0_6 k0_7 z0 HB
    go_wp2
    go_loopw [15] (fun iv wr => ∃ (i : Nat) (lo hi : RQ), i ≤ n ∧ iv = .int .i64 i ∧ Hid (lo = (l.take i).foldl stLo x) ∧ Hid (hi = (l.take i).foldl stHi x) ∧ Hid (RQ.Is w lo) ∧ Hid (RQ.Is w hi) ∧ Hid (Ls3 w wr G lo.q hi.q)) (fun iv _ => n - (intOf iv).toNat)
    case atStart => exact ⟨0, x, x, Nat.zero_le _, rfl, hide rfl, hide rfl, JX, JX, L0⟩
    case round =>
      obtain ⟨i, lo, hi, hi0, rfl, EL, EH, JL, JH, LL⟩ := hrel
      clear L0
      by_cases hlt : i < n
      · have hlt' : (i : Int) < (n : Int) := by omega
        have e0 := (unhide HL).at_ i (by rw [unhide HN]; exact hlt)
        have j0 := (unhide HL).is i (by rw [unhide HN]; exact hlt)
        obtain ⟨y, hy⟩ : ∃ y, y = l[i]'(by rw [unhide HN]; exact hlt) := ⟨_, rfl⟩
        rw [← hy] at e0 j0
        have EY := hide hy
        have JY := hide j0
        obtain ⟨e00, e01, e02, e03⟩ := e0
        have E0 : wr.cell? ⟨b, off + i * 4, none⟩ = some (.bool y.q.num.g) := ((unhide LL).bel.cell (p := ⟨b, off + i * 4, none⟩) (unhide HL).lt).trans e00
        have E1 : wr.cell? ⟨b, off + i * 4 + 1, none⟩ = some (.slice y.q.num.a y.q.num.n y.q.num.c) := ((unhide LL).bel.cell (p := ⟨b, off + i * 4 + 1, none⟩) (unhide HL).lt).trans e01
        have E2 : wr.cell? ⟨b, off + i * 4 + 2, none⟩ = some (.bool y.q.den.g) := ((unhide LL).bel.cell (p := ⟨b, off + i * 4 + 2, none⟩) (unhide HL).lt).trans e02
        have E3 : wr.cell? ⟨b, off + i * 4 + 3, none⟩ = some (.slice y.q.den.a y.q.den.n y.q.den.c) := ((unhide LL).bel.cell (p := ⟨b, off + i * 4 + 3, none⟩) (unhide HL).lt).trans e03
        clear hy j0 e00 e01 e02 e03
        have LA := hide ((unhide LL).later ((Below.refl _ _).alloc (Nat.le_refl _) (.cells #[.bool y.q.num.g, .slice y.q.num.a y.q.num.n y.q.num.c, .bool y.q.den.g, .slice y.q.den.a y.q.den.n y.q.den.c] 30)))
        have SL : Hid ((l.take (i + 1)).foldl stLo x = stLo lo y ∧ (l.take (i + 1)).foldl stHi x = stHi hi y) := hide (by
          have ht : l.take (i + 1) = l.take i ++ [y] := by rw [unhide EY]; exact (List.take_append_getElem (by rw [unhide HN]; exact hlt)).symm
          rw [ht, List.foldl_append, List.foldl_append, ← unhide EL, ← unhide EH]
          exact ⟨rfl, rfl⟩)
        have g1r : G < wr.heap.size := World.block_lt_of_cell? _ _ (unhide LL).a0
        clear LL EL EH
        by_cases c1 : y.N * lo.D < lo.N * y.D
        · by_cases c2 : hi.N * y.D < y.N * hi.D
          · have t1 : decide (cmpZ (y.N * lo.D) (lo.N * y.D) < 0) = true := cmpZ_lt1 c1
            have t2 : decide (0 < cmpZ (y.N * hi.D) (hi.N * y.D)) = true := cmpZ_gt1 c2
            have NL : Hid (stLo lo y = y ∧ stHi hi y = y) := hide ⟨by unfold stLo; rw [if_pos c1], by unfold stHi; rw [if_pos c2]⟩
            clear c1 c2
            have p0 := (unhide LA).a0
            have p1 := (unhide LA).a1
            have p2 := (unhide LA).a2
            have p3 := (unhide LA).a3
            go_wp2_with fail
            refine (cmpQS y.q lo.q _ _ _ _ _ ((unhide JY).is.later (unhide LA).bel) ((unhide JL).is.later (unhide LA).bel) (unhide JY).kn (unhide JY).kd (unhide JL).kn (unhide JL).kd).mono ?_
            rintro e w1 ⟨rfl, hb⟩
            have q0 : w1.cell? ⟨wr.heap.size, 0, none⟩ = some (.bool y.q.num.g) := cell_later hb (by simp [go_sem])
            have q1 : w1.cell? ⟨wr.heap.size, 1, none⟩ = some (.slice y.q.num.a y.q.num.n y.q.num.c) := cell_later hb (by simp [go_sem])
            have q2 : w1.cell? ⟨wr.heap.size, 2, none⟩ = some (.bool y.q.den.g) := cell_later hb (by simp [go_sem])
            have q3 : w1.cell? ⟨wr.heap.size, 3, none⟩ = some (.slice y.q.den.a y.q.den.n y.q.den.c) := cell_later hb (by simp [go_sem])
            have LB := hide ((unhide LA).later hb)
            clear hb LA E0 E1 E2 E3 p1 p2 p3
            clear p0
            have m0 := (unhide LB).a0
            have m1 := (unhide LB).a1
            have m2 := (unhide LB).a2
            have m3 := (unhide LB).a3
            have mf := (unhide LB).f1
            have LC := hide ((unhide LB).set1 (q := y.q) g1)
            have qq0 : ((((w1.setCell ⟨G, 0, none⟩ (.bool y.q.num.g)).setCell ⟨G, 1, none⟩ (.slice y.q.num.a y.q.num.n y.q.num.c)).setCell ⟨G, 2, none⟩ (.bool y.q.den.g)).setCell ⟨G, 3, none⟩ (.slice y.q.den.a y.q.den.n y.q.den.c)).cell? ⟨wr.heap.size, 0, none⟩ = some (.bool y.q.num.g) := cs_other (cs_other (cs_other (cs_other q0 (by omega)) (by omega)) (by omega)) (by omega)
            have qq1 : ((((w1.setCell ⟨G, 0, none⟩ (.bool y.q.num.g)).setCell ⟨G, 1, none⟩ (.slice y.q.num.a y.q.num.n y.q.num.c)).setCell ⟨G, 2, none⟩ (.bool y.q.den.g)).setCell ⟨G, 3, none⟩ (.slice y.q.den.a y.q.den.n y.q.den.c)).cell? ⟨wr.heap.size, 1, none⟩ = some (.slice y.q.num.a y.q.num.n y.q.num.c) := cs_other (cs_other (cs_other (cs_other q1 (by omega)) (by omega)) (by omega)) (by omega)
            have qq2 : ((((w1.setCell ⟨G, 0, none⟩ (.bool y.q.num.g)).setCell ⟨G, 1, none⟩ (.slice y.q.num.a y.q.num.n y.q.num.c)).setCell ⟨G, 2, none⟩ (.bool y.q.den.g)).setCell ⟨G, 3, none⟩ (.slice y.q.den.a y.q.den.n y.q.den.c)).cell? ⟨wr.heap.size, 2, none⟩ = some (.bool y.q.den.g) := cs_other (cs_other (cs_other (cs_other q2 (by omega)) (by omega)) (by omega)) (by omega)
            have qq3 : ((((w1.setCell ⟨G, 0, none⟩ (.bool y.q.num.g)).setCell ⟨G, 1, none⟩ (.slice y.q.num.a y.q.num.n y.q.num.c)).setCell ⟨G, 2, none⟩ (.bool y.q.den.g)).setCell ⟨G, 3, none⟩ (.slice y.q.den.a y.q.den.n y.q.den.c)).cell? ⟨wr.heap.size, 3, none⟩ = some (.slice y.q.den.a y.q.den.n y.q.den.c) := cs_other (cs_other (cs_other (cs_other q3 (by omega)) (by omega)) (by omega)) (by omega)
            have pp0 := (unhide LC).b0
            have pp1 := (unhide LC).b1
            have pp2 := (unhide LC).b2
            have pp3 := (unhide LC).b3
            go_wp2_with fail
            refine (cmpQS y.q hi.q _ _ _ _ _ ((unhide JY).is.later (unhide LC).bel) ((unhide JH).is.later (unhide LC).bel) (unhide JY).kn (unhide JY).kd (unhide JH).kn (unhide JH).kd).mono ?_
            rintro e w2 ⟨rfl, hb⟩
            have s0 := cell_later hb qq0
            have s1 := cell_later hb qq1
            have s2 := cell_later hb qq2
            have s3 := cell_later hb qq3
            have LD := hide ((unhide LC).later hb)
            clear hb LB pp0 pp1 pp2 pp3 q0 q1 q2 q3 LC qq0 qq1 qq2 qq3 m0 m1 m2 m3 mf
            have m0 := (unhide LD).b0
            have m1 := (unhide LD).b1
            have m2 := (unhide LD).b2
            have m3 := (unhide LD).b3
            have mf := (unhide LD).f1
            have LE := hide ((unhide LD).set2 (q := y.q) g1)
            go_wp2
            go_roundw
            case rel => exact ⟨i + 1, y, y, by omega, by go_num, hide (by rw [(unhide SL).1, (unhide NL).1]), hide (by rw [(unhide SL).2, (unhide NL).2]), JY, JY, LE⟩
            case measure => simp [intOf]; omega
          · have t1 : decide (cmpZ (y.N * lo.D) (lo.N * y.D) < 0) = true := cmpZ_lt1 c1
            have t2 : decide (0 < cmpZ (y.N * hi.D) (hi.N * y.D)) = false := cmpZ_gt0 c2
            have NL : Hid (stLo lo y = y ∧ stHi hi y = hi) := hide ⟨by unfold stLo; rw [if_pos c1], by unfold stHi; rw [if_neg c2]⟩
            clear c1 c2
            have p0 := (unhide LA).a0
            have p1 := (unhide LA).a1
            have p2 := (unhide LA).a2
            have p3 := (unhide LA).a3
            go_wp2_with fail
            refine (cmpQS y.q lo.q _ _ _ _ _ ((unhide JY).is.later (unhide LA).bel) ((unhide JL).is.later (unhide LA).bel) (unhide JY).kn (unhide JY).kd (unhide JL).kn (unhide JL).kd).mono ?_
            rintro e w1 ⟨rfl, hb⟩
            have q0 : w1.cell? ⟨wr.heap.size, 0, none⟩ = some (.bool y.q.num.g) := cell_later hb (by simp [go_sem])
            have q1 : w1.cell? ⟨wr.heap.size, 1, none⟩ = some (.slice y.q.num.a y.q.num.n y.q.num.c) := cell_later hb (by simp [go_sem])
            have q2 : w1.cell? ⟨wr.heap.size, 2, none⟩ = some (.bool y.q.den.g) := cell_later hb (by simp [go_sem])
            have q3 : w1.cell? ⟨wr.heap.size, 3, none⟩ = some (.slice y.q.den.a y.q.den.n y.q.den.c) := cell_later hb (by simp [go_sem])
            have LB := hide ((unhide LA).later hb)
            clear hb LA E0 E1 E2 E3 p1 p2 p3
            clear p0
            have m0 := (unhide LB).a0
            have m1 := (unhide LB).a1
            have m2 := (unhide LB).a2
            have m3 := (unhide LB).a3
            have mf := (unhide LB).f1
            have LC := hide ((unhide LB).set1 (q := y.q) g1)
            have qq0 : ((((w1.setCell ⟨G, 0, none⟩ (.bool y.q.num.g)).setCell ⟨G, 1, none⟩ (.slice y.q.num.a y.q.num.n y.q.num.c)).setCell ⟨G, 2, none⟩ (.bool y.q.den.g)).setCell ⟨G, 3, none⟩ (.slice y.q.den.a y.q.den.n y.q.den.c)).cell? ⟨wr.heap.size, 0, none⟩ = some (.bool y.q.num.g) := cs_other (cs_other (cs_other (cs_other q0 (by omega)) (by omega)) (by omega)) (by omega)
            have qq1 : ((((w1.setCell ⟨G, 0, none⟩ (.bool y.q.num.g)).setCell ⟨G, 1, none⟩ (.slice y.q.num.a y.q.num.n y.q.num.c)).setCell ⟨G, 2, none⟩ (.bool y.q.den.g)).setCell ⟨G, 3, none⟩ (.slice y.q.den.a y.q.den.n y.q.den.c)).cell? ⟨wr.heap.size, 1, none⟩ = some (.slice y.q.num.a y.q.num.n y.q.num.c) := cs_other (cs_other (cs_other (cs_other q1 (by omega)) (by omega)) (by omega)) (by omega)
            have qq2 : ((((w1.setCell ⟨G, 0, none⟩ (.bool y.q.num.g)).setCell ⟨G, 1, none⟩ (.slice y.q.num.a y.q.num.n y.q.num.c)).setCell ⟨G, 2, none⟩ (.bool y.q.den.g)).setCell ⟨G, 3, none⟩ (.slice y.q.den.a y.q.den.n y.q.den.c)).cell? ⟨wr.heap.size, 2, none⟩ = some (.bool y.q.den.g) := cs_other (cs_other (cs_other (cs_other q2 (by omega)) (by omega)) (by omega)) (by omega)
            have qq3 : ((((w1.setCell ⟨G, 0, none⟩ (.bool y.q.num.g)).setCell ⟨G, 1, none⟩ (.slice y.q.num.a y.q.num.n y.q.num.c)).setCell ⟨G, 2, none⟩ (.bool y.q.den.g)).setCell ⟨G, 3, none⟩ (.slice y.q.den.a y.q.den.n y.q.den.c)).cell? ⟨wr.heap.size, 3, none⟩ = some (.slice y.q.den.a y.q.den.n y.q.den.c) := cs_other (cs_other (cs_other (cs_other q3 (by omega)) (by omega)) (by omega)) (by omega)
            have pp0 := (unhide LC).b0
            have pp1 := (unhide LC).b1
            have pp2 := (unhide LC).b2
            have pp3 := (unhide LC).b3
            go_wp2_with fail
            refine (cmpQS y.q hi.q _ _ _ _ _ ((unhide JY).is.later (unhide LC).bel) ((unhide JH).is.later (unhide LC).bel) (unhide JY).kn (unhide JY).kd (unhide JH).kn (unhide JH).kd).mono ?_
            rintro e w2 ⟨rfl, hb⟩
            have s0 := cell_later hb qq0
            have s1 := cell_later hb qq1
            have s2 := cell_later hb qq2
            have s3 := cell_later hb qq3
            have LD := hide ((unhide LC).later hb)
            clear hb LB pp0 pp1 pp2 pp3 q0 q1 q2 q3 LC qq0 qq1 qq2 qq3 m0 m1 m2 m3 mf
            go_wp2
            go_roundw
            case rel => exact ⟨i + 1, y, hi, by omega, by go_num, hide (by rw [(unhide SL).1, (unhide NL).1]), hide (by rw [(unhide SL).2, (unhide NL).2]), JY, JH, LD⟩
            case measure => simp [intOf]; omega
        · by_cases c2 : hi.N * y.D < y.N * hi.D
          · have t1 : decide (cmpZ (y.N * lo.D) (lo.N * y.D) < 0) = false := cmpZ_lt0 c1
            have t2 : decide (0 < cmpZ (y.N * hi.D) (hi.N * y.D)) = true := cmpZ_gt1 c2
            have NL : Hid (stLo lo y = lo ∧ stHi hi y = y) := hide ⟨by unfold stLo; rw [if_neg c1], by unfold stHi; rw [if_pos c2]⟩
            clear c1 c2
            have p0 := (unhide LA).a0
            have p1 := (unhide LA).a1
            have p2 := (unhide LA).a2
            have p3 := (unhide LA).a3
            go_wp2_with fail
            refine (cmpQS y.q lo.q _ _ _ _ _ ((unhide JY).is.later (unhide LA).bel) ((unhide JL).is.later (unhide LA).bel) (unhide JY).kn (unhide JY).kd (unhide JL).kn (unhide JL).kd).mono ?_
            rintro e w1 ⟨rfl, hb⟩
            have q0 : w1.cell? ⟨wr.heap.size, 0, none⟩ = some (.bool y.q.num.g) := cell_later hb (by simp [go_sem])
            have q1 : w1.cell? ⟨wr.heap.size, 1, none⟩ = some (.slice y.q.num.a y.q.num.n y.q.num.c) := cell_later hb (by simp [go_sem])
            have q2 : w1.cell? ⟨wr.heap.size, 2, none⟩ = some (.bool y.q.den.g) := cell_later hb (by simp [go_sem])
            have q3 : w1.cell? ⟨wr.heap.size, 3, none⟩ = some (.slice y.q.den.a y.q.den.n y.q.den.c) := cell_later hb (by simp [go_sem])
            have LB := hide ((unhide LA).later hb)
            clear hb LA E0 E1 E2 E3 p1 p2 p3
            clear p0
            have pp0 := (unhide LB).b0
            have pp1 := (unhide LB).b1
            have pp2 := (unhide LB).b2
            have pp3 := (unhide LB).b3
            go_wp2_with fail
            refine (cmpQS y.q hi.q _ _ _ _ _ ((unhide JY).is.later (unhide LB).bel) ((unhide JH).is.later (unhide LB).bel) (unhide JY).kn (unhide JY).kd (unhide JH).kn (unhide JH).kd).mono ?_
            rintro e w2 ⟨rfl, hb⟩
            have s0 := cell_later hb q0
            have s1 := cell_later hb q1
            have s2 := cell_later hb q2
            have s3 := cell_later hb q3
            have LD := hide ((unhide LB).later hb)
            clear hb LB pp0 pp1 pp2 pp3 q0 q1 q2 q3
            have m0 := (unhide LD).b0
            have m1 := (unhide LD).b1
            have m2 := (unhide LD).b2
            have m3 := (unhide LD).b3
            have mf := (unhide LD).f1
            have LE := hide ((unhide LD).set2 (q := y.q) g1)
            go_wp2
            go_roundw
            case rel => exact ⟨i + 1, lo, y, by omega, by go_num, hide (by rw [(unhide SL).1, (unhide NL).1]), hide (by rw [(unhide SL).2, (unhide NL).2]), JL, JY, LE⟩
            case measure => simp [intOf]; omega
          · have t1 : decide (cmpZ (y.N * lo.D) (lo.N * y.D) < 0) = false := cmpZ_lt0 c1
            have t2 : decide (0 < cmpZ (y.N * hi.D) (hi.N * y.D)) = false := cmpZ_gt0 c2
            have NL : Hid (stLo lo y = lo ∧ stHi hi y = hi) := hide ⟨by unfold stLo; rw [if_neg c1], by unfold stHi; rw [if_neg c2]⟩
            clear c1 c2
            have p0 := (unhide LA).a0
            have p1 := (unhide LA).a1
            have p2 := (unhide LA).a2
            have p3 := (unhide LA).a3
            go_wp2_with fail
            refine (cmpQS y.q lo.q _ _ _ _ _ ((unhide JY).is.later (unhide LA).bel) ((unhide JL).is.later (unhide LA).bel) (unhide JY).kn (unhide JY).kd (unhide JL).kn (unhide JL).kd).mono ?_
            rintro e w1 ⟨rfl, hb⟩
            have q0 : w1.cell? ⟨wr.heap.size, 0, none⟩ = some (.bool y.q.num.g) := cell_later hb (by simp [go_sem])
            have q1 : w1.cell? ⟨wr.heap.size, 1, none⟩ = some (.slice y.q.num.a y.q.num.n y.q.num.c) := cell_later hb (by simp [go_sem])
            have q2 : w1.cell? ⟨wr.heap.size, 2, none⟩ = some (.bool y.q.den.g) := cell_later hb (by simp [go_sem])
            have q3 : w1.cell? ⟨wr.heap.size, 3, none⟩ = some (.slice y.q.den.a y.q.den.n y.q.den.c) := cell_later hb (by simp [go_sem])
            have LB := hide ((unhide LA).later hb)
            clear hb LA E0 E1 E2 E3 p1 p2 p3
            clear p0
            have pp0 := (unhide LB).b0
            have pp1 := (unhide LB).b1
            have pp2 := (unhide LB).b2
            have pp3 := (unhide LB).b3
            go_wp2_with fail
            refine (cmpQS y.q hi.q _ _ _ _ _ ((unhide JY).is.later (unhide LB).bel) ((unhide JH).is.later (unhide LB).bel) (unhide JY).kn (unhide JY).kd (unhide JH).kn (unhide JH).kd).mono ?_
            rintro e w2 ⟨rfl, hb⟩
            have s0 := cell_later hb q0
            have s1 := cell_later hb q1
            have s2 := cell_later hb q2
            have s3 := cell_later hb q3
            have LD := hide ((unhide LB).later hb)
            clear hb LB pp0 pp1 pp2 pp3 q0 q1 q2 q3
            go_wp2
            go_roundw
            case rel => exact ⟨i + 1, lo, hi, by omega, by go_num, hide (by rw [(unhide SL).1, (unhide NL).1]), hide (by rw [(unhide SL).2, (unhide NL).2]), JL, JH, LD⟩
            case measure => simp [intOf]; omega
      · obtain rfl : i = n := by omega
        have E1 : Hid (lo = l.foldl stLo x ∧ hi = l.foldl stHi x) := hide ⟨by rw [unhide EL, ← unhide HN, List.take_length], by rw [unhide EH, ← unhide HN, List.take_length]⟩
        have k1_0 := (unhide LL).a0
        have k1_4 := (unhide LL).b0
        have k1_1 := (unhide LL).a1
        have k1_5 := (unhide LL).b1
        have k1_2 := (unhide LL).a2
        have k1_6 := (unhide LL).b2
        have k1_3 := (unhide LL).a3
        have k1_7 := (unhide LL).b3
        have k0_0 := (unhide LL).r0
        have k0_1 := (unhide LL).r1
        have k0_2 := (unhide LL).r2
        have k0_3 := (unhide LL).r3
        have k0_4 := (unhide LL).r4
        have k0_5 := (unhide LL).r5
        have k0_6 := (unhide LL).r6
        have k0_7 := (unhide LL).r7
        have z0 := (unhide LL).fr
        go_wp2
        refine bodyPost_ret (v := .agg #[.bool lo.q.num.g, .slice lo.q.num.a lo.q.num.n lo.q.num.c, .bool lo.q.den.g, .slice lo.q.den.a lo.q.den.n lo.q.den.c, .bool hi.q.num.g, .slice hi.q.num.a hi.q.num.n hi.q.num.c, .bool hi.q.den.g, .slice hi.q.den.a hi.q.den.n hi.q.den.c]) (by simp [results, Try.results103, go_sem, k0_0, k0_1, k0_2, k0_3, k0_4, k0_5, k0_6, k0_7]) rfl ?_
        have bt := metS_but (w5 := wr) (v := ⟨lo.q, hi.q⟩) (G := w.heap.size)
        have bw := bt.below (unhide LL).bel (Nat.le_refl _) (unhide LL).bel.size
        rw [← (unhide E1).1, ← (unhide E1).2]
        exact ⟨⟨lo.q, hi.q⟩, rfl, bw, (unhide JL).is.later bw, (unhide JH).is.later bw⟩
end Go.Proofs.Ytlmeokeanihhoaa
namespace Go.Proofs.Ytlmeokeanihhoaa
open Go.RowKit
set_option linter.unusedVariables false
set_option maxRecDepth 100000
set_option linter.unusedSimpArgs false

/-- The fold, without the values. -/
def pLo (s a : Int × Int) : Int × Int := if a.1 * s.2 < s.1 * a.2 then a else s
def pHi (s a : Int × Int) : Int × Int := if s.1 * a.2 < a.1 * s.2 then a else s
def RQ.p (x : RQ) : Int × Int := (x.N, x.D)
theorem fold_lo (l : List RQ) : ∀ x : RQ, (l.foldl stLo x).p = (l.map RQ.p).foldl pLo x.p := by
  induction l with
  | nil => intro x; rfl
  | cons a l ih =>
    intro x
    rw [List.foldl_cons, List.map_cons, List.foldl_cons, ih]
    congr 1
    unfold stLo pLo RQ.p
    simp only
    split <;> rfl
theorem fold_hi (l : List RQ) : ∀ x : RQ, (l.foldl stHi x).p = (l.map RQ.p).foldl pHi x.p := by
  induction l with
  | nil => intro x; rfl
  | cons a l ih =>
    intro x
    rw [List.foldl_cons, List.map_cons, List.foldl_cons, ih]
    congr 1
    unfold stHi pHi RQ.p
    simp only
    split <;> rfl
theorem fold_pos (l : List (Int × Int)) (hl : ∀ y ∈ l, 0 < y.2) : ∀ x : Int × Int, 0 < x.2 → 0 < (l.foldl pLo x).2 ∧ 0 < (l.foldl pHi x).2 := by
  induction l with
  | nil => intro x h; exact ⟨h, h⟩
  | cons a l ih =>
    intro x h
    have ha := hl a List.mem_cons_self
    have ih' := ih (fun y hy => hl y (List.mem_cons_of_mem _ hy))
    rw [List.foldl_cons, List.foldl_cons]
    exact ⟨(ih' (pLo x a) (by unfold pLo; split <;> assumption)).1, (ih' (pHi x a) (by unfold pHi; split <;> assumption)).2⟩
theorem pLo_self (x : Int × Int) : pLo x x = x := by unfold pLo; split <;> rfl
theorem pHi_self (x : Int × Int) : pHi x x = x := by unfold pHi; split <;> rfl
theorem RQ.Is.later {w w' : World} {x : RQ} (h : RQ.Is w x) (hb : Below w.heap.size w w') : RQ.Is w' x := ⟨h.is.later hb, h.kn, h.kd⟩
theorem rats_3 {w : World} {r1 r2 r3 : RQ} {t : TypeId} (h1 : RQ.Is w r1) (h2 : RQ.Is w r2) (h3 : RQ.Is w r3) : Rats (w.alloc (.cells #[.bool r1.q.num.g, .slice r1.q.num.a r1.q.num.n r1.q.num.c, .bool r1.q.den.g, .slice r1.q.den.a r1.q.den.n r1.q.den.c, .bool r2.q.num.g, .slice r2.q.num.a r2.q.num.n r2.q.num.c, .bool r2.q.den.g, .slice r2.q.den.a r2.q.den.n r2.q.den.c, .bool r3.q.num.g, .slice r3.q.num.a r3.q.num.n r3.q.num.c, .bool r3.q.den.g, .slice r3.q.den.a r3.q.den.n r3.q.den.c] t)) w.heap.size 0 [r1, r2, r3] := by
  have al : Below w.heap.size w (w.alloc (.cells #[.bool r1.q.num.g, .slice r1.q.num.a r1.q.num.n r1.q.num.c, .bool r1.q.den.g, .slice r1.q.den.a r1.q.den.n r1.q.den.c, .bool r2.q.num.g, .slice r2.q.num.a r2.q.num.n r2.q.num.c, .bool r2.q.den.g, .slice r2.q.den.a r2.q.den.n r2.q.den.c, .bool r3.q.num.g, .slice r3.q.num.a r3.q.num.n r3.q.num.c, .bool r3.q.den.g, .slice r3.q.den.a r3.q.den.n r3.q.den.c] t)) := (Below.refl _ _).alloc (Nat.le_refl _) _
  refine ⟨fun i hi => ?_, fun i hi => ?_, by simp⟩
  · have hi' : i < 3 := by simpa using hi
    match i, hi' with
    | 0, _ => simp [go_sem]
    | 1, _ => simp [go_sem]
    | 2, _ => simp [go_sem]
  · have hi' : i < 3 := by simpa using hi
    match i, hi' with
    | 0, _ => exact ⟨h1.is.later al, h1.kn, h1.kd⟩
    | 1, _ => exact ⟨h2.is.later al, h2.kn, h2.kd⟩
    | 2, _ => exact ⟨h3.is.later al, h3.kn, h3.kd⟩
theorem rats_4 {w : World} {r1 r2 r3 r4 : RQ} {t : TypeId} (h1 : RQ.Is w r1) (h2 : RQ.Is w r2) (h3 : RQ.Is w r3) (h4 : RQ.Is w r4) : Rats (w.alloc (.cells #[.bool r1.q.num.g, .slice r1.q.num.a r1.q.num.n r1.q.num.c, .bool r1.q.den.g, .slice r1.q.den.a r1.q.den.n r1.q.den.c, .bool r2.q.num.g, .slice r2.q.num.a r2.q.num.n r2.q.num.c, .bool r2.q.den.g, .slice r2.q.den.a r2.q.den.n r2.q.den.c, .bool r3.q.num.g, .slice r3.q.num.a r3.q.num.n r3.q.num.c, .bool r3.q.den.g, .slice r3.q.den.a r3.q.den.n r3.q.den.c, .bool r4.q.num.g, .slice r4.q.num.a r4.q.num.n r4.q.num.c, .bool r4.q.den.g, .slice r4.q.den.a r4.q.den.n r4.q.den.c] t)) w.heap.size 0 [r1, r2, r3, r4] := by
  have al : Below w.heap.size w (w.alloc (.cells #[.bool r1.q.num.g, .slice r1.q.num.a r1.q.num.n r1.q.num.c, .bool r1.q.den.g, .slice r1.q.den.a r1.q.den.n r1.q.den.c, .bool r2.q.num.g, .slice r2.q.num.a r2.q.num.n r2.q.num.c, .bool r2.q.den.g, .slice r2.q.den.a r2.q.den.n r2.q.den.c, .bool r3.q.num.g, .slice r3.q.num.a r3.q.num.n r3.q.num.c, .bool r3.q.den.g, .slice r3.q.den.a r3.q.den.n r3.q.den.c, .bool r4.q.num.g, .slice r4.q.num.a r4.q.num.n r4.q.num.c, .bool r4.q.den.g, .slice r4.q.den.a r4.q.den.n r4.q.den.c] t)) := (Below.refl _ _).alloc (Nat.le_refl _) _
  refine ⟨fun i hi => ?_, fun i hi => ?_, by simp⟩
  · have hi' : i < 4 := by simpa using hi
    match i, hi' with
    | 0, _ => simp [go_sem]
    | 1, _ => simp [go_sem]
    | 2, _ => simp [go_sem]
    | 3, _ => simp [go_sem]
  · have hi' : i < 4 := by simpa using hi
    match i, hi' with
    | 0, _ => exact ⟨h1.is.later al, h1.kn, h1.kd⟩
    | 1, _ => exact ⟨h2.is.later al, h2.kn, h2.kd⟩
    | 2, _ => exact ⟨h3.is.later al, h3.kn, h3.kd⟩
    | 3, _ => exact ⟨h4.is.later al, h4.kn, h4.kd⟩

end Go.Proofs.Ytlmeokeanihhoaa
namespace Go.Proofs.Ytlmeokeanihhoaa
open Go.RowKit
set_option linter.unusedVariables false
set_option maxRecDepth 100000
set_option linter.unusedSimpArgs false

def mp (a b : QD) : Int × Int := (lowN (nQ a * nQ b) (dQ a * dQ b), lowD (nQ a * nQ b) (dQ a * dQ b))
def mLo (d e : SD) : Int × Int := [mp d.lo e.hi, mp d.hi e.lo, mp d.hi e.hi].foldl pLo (mp d.lo e.lo)
def mHi (d e : SD) : Int × Int := [mp d.lo e.hi, mp d.hi e.lo, mp d.hi e.hi].foldl pHi (mp d.lo e.lo)
theorem mPos {w : World} {v u : SV} {d e : SD} (h : IsGoodS w v d) (k : IsGoodS w u e) : 0 < (mLo d e).2 ∧ 0 < (mHi d e).2 := by
  have p : ∀ {w : World} {q r : QV} {a b : QD}, IsGood w q a → IsGood w r b → 0 < (mp a b).2 := fun ha hb => lowD_pos (Int.mul_ne_zero (by have := ha.pos; omega) (by have := hb.pos; omega))
  have := fold_pos [mp d.lo e.hi, mp d.hi e.lo, mp d.hi e.hi] (by
    intro y hy
    simp at hy
    rcases hy with rfl | rfl | rfl
    · exact p h.lo k.hi
    · exact p h.hi k.lo
    · exact p h.hi k.hi) (mp d.lo e.lo) (p h.lo k.lo)
  exact this
/-- The bounds of a product in lowest terms. -/
theorem mBd {w : World} {q r : QV} {a b : QD} (ha : IsGood w q a) (hb : IsGood w r b) : Bd (lowN (nQ a * nQ b) (dQ a * dQ b)) 200000 ∧ Bd (lowD (nQ a * nQ b) (dQ a * dQ b)) 200000 :=
  ⟨lowN_bd ((ha.kn.mul hb.kn).mono (by omega)), lowD_bd ((ha.kd.mul hb.kd).mono (by omega))⟩
theorem mNz {w : World} {q r : QV} {a b : QD} (ha : IsGood w q a) (hb : IsGood w r b) : dQ a * dQ b ≠ 0 := Int.mul_ne_zero (by have := ha.pos; omega) (by have := hb.pos; omega)

set_option maxHeartbeats 8000000 in
theorem mulSpans_v (v u : SV) (d e : SD) (w : World) (j1 : IsGoodS w v d) (j2 : IsGoodS w u e) :
    Calls Try.prog 104 #[.agg #[.bool v.lo.num.g, .slice v.lo.num.a v.lo.num.n v.lo.num.c, .bool v.lo.den.g, .slice v.lo.den.a v.lo.den.n v.lo.den.c, .bool v.hi.num.g, .slice v.hi.num.a v.hi.num.n v.hi.num.c, .bool v.hi.den.g, .slice v.hi.den.a v.hi.den.n v.hi.den.c], .agg #[.bool u.lo.num.g, .slice u.lo.num.a u.lo.num.n u.lo.num.c, .bool u.lo.den.g, .slice u.lo.den.a u.lo.den.n u.lo.den.c, .bool u.hi.num.g, .slice u.hi.num.a u.hi.num.n u.hi.num.c, .bool u.hi.den.g, .slice u.hi.den.a u.hi.den.n u.hi.den.c]] w (OutS w (mLo d e).1 (mLo d e).2 (mHi d e).1 (mHi d e).2) := by
  have J1 := hide j1
  have J2 := hide j2
  clear j1 j2
  go_enter Try.func104, Try.ntmps104
  go_upto_region 1 with fail
  have hb : Below w.heap.size w (((w.alloc (.cells #[.bool v.lo.num.g, .slice v.lo.num.a v.lo.num.n v.lo.num.c, .bool v.lo.den.g, .slice v.lo.den.a v.lo.den.n v.lo.den.c, .bool v.hi.num.g, .slice v.hi.num.a v.hi.num.n v.hi.num.c, .bool v.hi.den.g, .slice v.hi.den.a v.hi.den.n v.hi.den.c] 41)).alloc (.cells #[.bool u.lo.num.g, .slice u.lo.num.a u.lo.num.n u.lo.num.c, .bool u.lo.den.g, .slice u.lo.den.a u.lo.den.n u.lo.den.c, .bool u.hi.num.g, .slice u.hi.num.a u.hi.num.n u.hi.num.c, .bool u.hi.den.g, .slice u.hi.den.a u.hi.den.n u.hi.den.c] 41)).alloc (.cells #[.bool false, .slice none 0 0, .bool false, .slice none 0 0, .bool false, .slice none 0 0, .bool false, .slice none 0 0] 41)) := ((((Below.refl _ _).alloc (by simp) _).alloc (by simp) _).alloc (by simp <;> omega) _)
  have k0_0 : (((w.alloc (.cells #[.bool v.lo.num.g, .slice v.lo.num.a v.lo.num.n v.lo.num.c, .bool v.lo.den.g, .slice v.lo.den.a v.lo.den.n v.lo.den.c, .bool v.hi.num.g, .slice v.hi.num.a v.hi.num.n v.hi.num.c, .bool v.hi.den.g, .slice v.hi.den.a v.hi.den.n v.hi.den.c] 41)).alloc (.cells #[.bool u.lo.num.g, .slice u.lo.num.a u.lo.num.n u.lo.num.c, .bool u.lo.den.g, .slice u.lo.den.a u.lo.den.n u.lo.den.c, .bool u.hi.num.g, .slice u.hi.num.a u.hi.num.n u.hi.num.c, .bool u.hi.den.g, .slice u.hi.den.a u.hi.den.n u.hi.den.c] 41)).alloc (.cells #[.bool false, .slice none 0 0, .bool false, .slice none 0 0, .bool false, .slice none 0 0, .bool false, .slice none 0 0] 41)).cell? ⟨w.heap.size, 0, none⟩ = some (.bool v.lo.num.g) := by simp [go_sem]
  have k0_1 : (((w.alloc (.cells #[.bool v.lo.num.g, .slice v.lo.num.a v.lo.num.n v.lo.num.c, .bool v.lo.den.g, .slice v.lo.den.a v.lo.den.n v.lo.den.c, .bool v.hi.num.g, .slice v.hi.num.a v.hi.num.n v.hi.num.c, .bool v.hi.den.g, .slice v.hi.den.a v.hi.den.n v.hi.den.c] 41)).alloc (.cells #[.bool u.lo.num.g, .slice u.lo.num.a u.lo.num.n u.lo.num.c, .bool u.lo.den.g, .slice u.lo.den.a u.lo.den.n u.lo.den.c, .bool u.hi.num.g, .slice u.hi.num.a u.hi.num.n u.hi.num.c, .bool u.hi.den.g, .slice u.hi.den.a u.hi.den.n u.hi.den.c] 41)).alloc (.cells #[.bool false, .slice none 0 0, .bool false, .slice none 0 0, .bool false, .slice none 0 0, .bool false, .slice none 0 0] 41)).cell? ⟨w.heap.size, 1, none⟩ = some (.slice v.lo.num.a v.lo.num.n v.lo.num.c) := by simp [go_sem]
  have k0_2 : (((w.alloc (.cells #[.bool v.lo.num.g, .slice v.lo.num.a v.lo.num.n v.lo.num.c, .bool v.lo.den.g, .slice v.lo.den.a v.lo.den.n v.lo.den.c, .bool v.hi.num.g, .slice v.hi.num.a v.hi.num.n v.hi.num.c, .bool v.hi.den.g, .slice v.hi.den.a v.hi.den.n v.hi.den.c] 41)).alloc (.cells #[.bool u.lo.num.g, .slice u.lo.num.a u.lo.num.n u.lo.num.c, .bool u.lo.den.g, .slice u.lo.den.a u.lo.den.n u.lo.den.c, .bool u.hi.num.g, .slice u.hi.num.a u.hi.num.n u.hi.num.c, .bool u.hi.den.g, .slice u.hi.den.a u.hi.den.n u.hi.den.c] 41)).alloc (.cells #[.bool false, .slice none 0 0, .bool false, .slice none 0 0, .bool false, .slice none 0 0, .bool false, .slice none 0 0] 41)).cell? ⟨w.heap.size, 2, none⟩ = some (.bool v.lo.den.g) := by simp [go_sem]
  have k0_3 : (((w.alloc (.cells #[.bool v.lo.num.g, .slice v.lo.num.a v.lo.num.n v.lo.num.c, .bool v.lo.den.g, .slice v.lo.den.a v.lo.den.n v.lo.den.c, .bool v.hi.num.g, .slice v.hi.num.a v.hi.num.n v.hi.num.c, .bool v.hi.den.g, .slice v.hi.den.a v.hi.den.n v.hi.den.c] 41)).alloc (.cells #[.bool u.lo.num.g, .slice u.lo.num.a u.lo.num.n u.lo.num.c, .bool u.lo.den.g, .slice u.lo.den.a u.lo.den.n u.lo.den.c, .bool u.hi.num.g, .slice u.hi.num.a u.hi.num.n u.hi.num.c, .bool u.hi.den.g, .slice u.hi.den.a u.hi.den.n u.hi.den.c] 41)).alloc (.cells #[.bool false, .slice none 0 0, .bool false, .slice none 0 0, .bool false, .slice none 0 0, .bool false, .slice none 0 0] 41)).cell? ⟨w.heap.size, 3, none⟩ = some (.slice v.lo.den.a v.lo.den.n v.lo.den.c) := by simp [go_sem]
  have k0_4 : (((w.alloc (.cells #[.bool v.lo.num.g, .slice v.lo.num.a v.lo.num.n v.lo.num.c, .bool v.lo.den.g, .slice v.lo.den.a v.lo.den.n v.lo.den.c, .bool v.hi.num.g, .slice v.hi.num.a v.hi.num.n v.hi.num.c, .bool v.hi.den.g, .slice v.hi.den.a v.hi.den.n v.hi.den.c] 41)).alloc (.cells #[.bool u.lo.num.g, .slice u.lo.num.a u.lo.num.n u.lo.num.c, .bool u.lo.den.g, .slice u.lo.den.a u.lo.den.n u.lo.den.c, .bool u.hi.num.g, .slice u.hi.num.a u.hi.num.n u.hi.num.c, .bool u.hi.den.g, .slice u.hi.den.a u.hi.den.n u.hi.den.c] 41)).alloc (.cells #[.bool false, .slice none 0 0, .bool false, .slice none 0 0, .bool false, .slice none 0 0, .bool false, .slice none 0 0] 41)).cell? ⟨w.heap.size, 4, none⟩ = some (.bool v.hi.num.g) := by simp [go_sem]
  have k0_5 : (((w.alloc (.cells #[.bool v.lo.num.g, .slice v.lo.num.a v.lo.num.n v.lo.num.c, .bool v.lo.den.g, .slice v.lo.den.a v.lo.den.n v.lo.den.c, .bool v.hi.num.g, .slice v.hi.num.a v.hi.num.n v.hi.num.c, .bool v.hi.den.g, .slice v.hi.den.a v.hi.den.n v.hi.den.c] 41)).alloc (.cells #[.bool u.lo.num.g, .slice u.lo.num.a u.lo.num.n u.lo.num.c, .bool u.lo.den.g, .slice u.lo.den.a u.lo.den.n u.lo.den.c, .bool u.hi.num.g, .slice u.hi.num.a u.hi.num.n u.hi.num.c, .bool u.hi.den.g, .slice u.hi.den.a u.hi.den.n u.hi.den.c] 41)).alloc (.cells #[.bool false, .slice none 0 0, .bool false, .slice none 0 0, .bool false, .slice none 0 0, .bool false, .slice none 0 0] 41)).cell? ⟨w.heap.size, 5, none⟩ = some (.slice v.hi.num.a v.hi.num.n v.hi.num.c) := by simp [go_sem]
  have k0_6 : (((w.alloc (.cells #[.bool v.lo.num.g, .slice v.lo.num.a v.lo.num.n v.lo.num.c, .bool v.lo.den.g, .slice v.lo.den.a v.lo.den.n v.lo.den.c, .bool v.hi.num.g, .slice v.hi.num.a v.hi.num.n v.hi.num.c, .bool v.hi.den.g, .slice v.hi.den.a v.hi.den.n v.hi.den.c] 41)).alloc (.cells #[.bool u.lo.num.g, .slice u.lo.num.a u.lo.num.n u.lo.num.c, .bool u.lo.den.g, .slice u.lo.den.a u.lo.den.n u.lo.den.c, .bool u.hi.num.g, .slice u.hi.num.a u.hi.num.n u.hi.num.c, .bool u.hi.den.g, .slice u.hi.den.a u.hi.den.n u.hi.den.c] 41)).alloc (.cells #[.bool false, .slice none 0 0, .bool false, .slice none 0 0, .bool false, .slice none 0 0, .bool false, .slice none 0 0] 41)).cell? ⟨w.heap.size, 6, none⟩ = some (.bool v.hi.den.g) := by simp [go_sem]
  have k0_7 : (((w.alloc (.cells #[.bool v.lo.num.g, .slice v.lo.num.a v.lo.num.n v.lo.num.c, .bool v.lo.den.g, .slice v.lo.den.a v.lo.den.n v.lo.den.c, .bool v.hi.num.g, .slice v.hi.num.a v.hi.num.n v.hi.num.c, .bool v.hi.den.g, .slice v.hi.den.a v.hi.den.n v.hi.den.c] 41)).alloc (.cells #[.bool u.lo.num.g, .slice u.lo.num.a u.lo.num.n u.lo.num.c, .bool u.lo.den.g, .slice u.lo.den.a u.lo.den.n u.lo.den.c, .bool u.hi.num.g, .slice u.hi.num.a u.hi.num.n u.hi.num.c, .bool u.hi.den.g, .slice u.hi.den.a u.hi.den.n u.hi.den.c] 41)).alloc (.cells #[.bool false, .slice none 0 0, .bool false, .slice none 0 0, .bool false, .slice none 0 0, .bool false, .slice none 0 0] 41)).cell? ⟨w.heap.size, 7, none⟩ = some (.slice v.hi.den.a v.hi.den.n v.hi.den.c) := by simp [go_sem]
  have k1_0 : (((w.alloc (.cells #[.bool v.lo.num.g, .slice v.lo.num.a v.lo.num.n v.lo.num.c, .bool v.lo.den.g, .slice v.lo.den.a v.lo.den.n v.lo.den.c, .bool v.hi.num.g, .slice v.hi.num.a v.hi.num.n v.hi.num.c, .bool v.hi.den.g, .slice v.hi.den.a v.hi.den.n v.hi.den.c] 41)).alloc (.cells #[.bool u.lo.num.g, .slice u.lo.num.a u.lo.num.n u.lo.num.c, .bool u.lo.den.g, .slice u.lo.den.a u.lo.den.n u.lo.den.c, .bool u.hi.num.g, .slice u.hi.num.a u.hi.num.n u.hi.num.c, .bool u.hi.den.g, .slice u.hi.den.a u.hi.den.n u.hi.den.c] 41)).alloc (.cells #[.bool false, .slice none 0 0, .bool false, .slice none 0 0, .bool false, .slice none 0 0, .bool false, .slice none 0 0] 41)).cell? ⟨w.heap.size + 1, 0, none⟩ = some (.bool u.lo.num.g) := by simp [go_sem]
  have k1_1 : (((w.alloc (.cells #[.bool v.lo.num.g, .slice v.lo.num.a v.lo.num.n v.lo.num.c, .bool v.lo.den.g, .slice v.lo.den.a v.lo.den.n v.lo.den.c, .bool v.hi.num.g, .slice v.hi.num.a v.hi.num.n v.hi.num.c, .bool v.hi.den.g, .slice v.hi.den.a v.hi.den.n v.hi.den.c] 41)).alloc (.cells #[.bool u.lo.num.g, .slice u.lo.num.a u.lo.num.n u.lo.num.c, .bool u.lo.den.g, .slice u.lo.den.a u.lo.den.n u.lo.den.c, .bool u.hi.num.g, .slice u.hi.num.a u.hi.num.n u.hi.num.c, .bool u.hi.den.g, .slice u.hi.den.a u.hi.den.n u.hi.den.c] 41)).alloc (.cells #[.bool false, .slice none 0 0, .bool false, .slice none 0 0, .bool false, .slice none 0 0, .bool false, .slice none 0 0] 41)).cell? ⟨w.heap.size + 1, 1, none⟩ = some (.slice u.lo.num.a u.lo.num.n u.lo.num.c) := by simp [go_sem]
  have k1_2 : (((w.alloc (.cells #[.bool v.lo.num.g, .slice v.lo.num.a v.lo.num.n v.lo.num.c, .bool v.lo.den.g, .slice v.lo.den.a v.lo.den.n v.lo.den.c, .bool v.hi.num.g, .slice v.hi.num.a v.hi.num.n v.hi.num.c, .bool v.hi.den.g, .slice v.hi.den.a v.hi.den.n v.hi.den.c] 41)).alloc (.cells #[.bool u.lo.num.g, .slice u.lo.num.a u.lo.num.n u.lo.num.c, .bool u.lo.den.g, .slice u.lo.den.a u.lo.den.n u.lo.den.c, .bool u.hi.num.g, .slice u.hi.num.a u.hi.num.n u.hi.num.c, .bool u.hi.den.g, .slice u.hi.den.a u.hi.den.n u.hi.den.c] 41)).alloc (.cells #[.bool false, .slice none 0 0, .bool false, .slice none 0 0, .bool false, .slice none 0 0, .bool false, .slice none 0 0] 41)).cell? ⟨w.heap.size + 1, 2, none⟩ = some (.bool u.lo.den.g) := by simp [go_sem]
  have k1_3 : (((w.alloc (.cells #[.bool v.lo.num.g, .slice v.lo.num.a v.lo.num.n v.lo.num.c, .bool v.lo.den.g, .slice v.lo.den.a v.lo.den.n v.lo.den.c, .bool v.hi.num.g, .slice v.hi.num.a v.hi.num.n v.hi.num.c, .bool v.hi.den.g, .slice v.hi.den.a v.hi.den.n v.hi.den.c] 41)).alloc (.cells #[.bool u.lo.num.g, .slice u.lo.num.a u.lo.num.n u.lo.num.c, .bool u.lo.den.g, .slice u.lo.den.a u.lo.den.n u.lo.den.c, .bool u.hi.num.g, .slice u.hi.num.a u.hi.num.n u.hi.num.c, .bool u.hi.den.g, .slice u.hi.den.a u.hi.den.n u.hi.den.c] 41)).alloc (.cells #[.bool false, .slice none 0 0, .bool false, .slice none 0 0, .bool false, .slice none 0 0, .bool false, .slice none 0 0] 41)).cell? ⟨w.heap.size + 1, 3, none⟩ = some (.slice u.lo.den.a u.lo.den.n u.lo.den.c) := by simp [go_sem]
  have k1_4 : (((w.alloc (.cells #[.bool v.lo.num.g, .slice v.lo.num.a v.lo.num.n v.lo.num.c, .bool v.lo.den.g, .slice v.lo.den.a v.lo.den.n v.lo.den.c, .bool v.hi.num.g, .slice v.hi.num.a v.hi.num.n v.hi.num.c, .bool v.hi.den.g, .slice v.hi.den.a v.hi.den.n v.hi.den.c] 41)).alloc (.cells #[.bool u.lo.num.g, .slice u.lo.num.a u.lo.num.n u.lo.num.c, .bool u.lo.den.g, .slice u.lo.den.a u.lo.den.n u.lo.den.c, .bool u.hi.num.g, .slice u.hi.num.a u.hi.num.n u.hi.num.c, .bool u.hi.den.g, .slice u.hi.den.a u.hi.den.n u.hi.den.c] 41)).alloc (.cells #[.bool false, .slice none 0 0, .bool false, .slice none 0 0, .bool false, .slice none 0 0, .bool false, .slice none 0 0] 41)).cell? ⟨w.heap.size + 1, 4, none⟩ = some (.bool u.hi.num.g) := by simp [go_sem]
  have k1_5 : (((w.alloc (.cells #[.bool v.lo.num.g, .slice v.lo.num.a v.lo.num.n v.lo.num.c, .bool v.lo.den.g, .slice v.lo.den.a v.lo.den.n v.lo.den.c, .bool v.hi.num.g, .slice v.hi.num.a v.hi.num.n v.hi.num.c, .bool v.hi.den.g, .slice v.hi.den.a v.hi.den.n v.hi.den.c] 41)).alloc (.cells #[.bool u.lo.num.g, .slice u.lo.num.a u.lo.num.n u.lo.num.c, .bool u.lo.den.g, .slice u.lo.den.a u.lo.den.n u.lo.den.c, .bool u.hi.num.g, .slice u.hi.num.a u.hi.num.n u.hi.num.c, .bool u.hi.den.g, .slice u.hi.den.a u.hi.den.n u.hi.den.c] 41)).alloc (.cells #[.bool false, .slice none 0 0, .bool false, .slice none 0 0, .bool false, .slice none 0 0, .bool false, .slice none 0 0] 41)).cell? ⟨w.heap.size + 1, 5, none⟩ = some (.slice u.hi.num.a u.hi.num.n u.hi.num.c) := by simp [go_sem]
  have k1_6 : (((w.alloc (.cells #[.bool v.lo.num.g, .slice v.lo.num.a v.lo.num.n v.lo.num.c, .bool v.lo.den.g, .slice v.lo.den.a v.lo.den.n v.lo.den.c, .bool v.hi.num.g, .slice v.hi.num.a v.hi.num.n v.hi.num.c, .bool v.hi.den.g, .slice v.hi.den.a v.hi.den.n v.hi.den.c] 41)).alloc (.cells #[.bool u.lo.num.g, .slice u.lo.num.a u.lo.num.n u.lo.num.c, .bool u.lo.den.g, .slice u.lo.den.a u.lo.den.n u.lo.den.c, .bool u.hi.num.g, .slice u.hi.num.a u.hi.num.n u.hi.num.c, .bool u.hi.den.g, .slice u.hi.den.a u.hi.den.n u.hi.den.c] 41)).alloc (.cells #[.bool false, .slice none 0 0, .bool false, .slice none 0 0, .bool false, .slice none 0 0, .bool false, .slice none 0 0] 41)).cell? ⟨w.heap.size + 1, 6, none⟩ = some (.bool u.hi.den.g) := by simp [go_sem]
  have k1_7 : (((w.alloc (.cells #[.bool v.lo.num.g, .slice v.lo.num.a v.lo.num.n v.lo.num.c, .bool v.lo.den.g, .slice v.lo.den.a v.lo.den.n v.lo.den.c, .bool v.hi.num.g, .slice v.hi.num.a v.hi.num.n v.hi.num.c, .bool v.hi.den.g, .slice v.hi.den.a v.hi.den.n v.hi.den.c] 41)).alloc (.cells #[.bool u.lo.num.g, .slice u.lo.num.a u.lo.num.n u.lo.num.c, .bool u.lo.den.g, .slice u.lo.den.a u.lo.den.n u.lo.den.c, .bool u.hi.num.g, .slice u.hi.num.a u.hi.num.n u.hi.num.c, .bool u.hi.den.g, .slice u.hi.den.a u.hi.den.n u.hi.den.c] 41)).alloc (.cells #[.bool false, .slice none 0 0, .bool false, .slice none 0 0, .bool false, .slice none 0 0, .bool false, .slice none 0 0] 41)).cell? ⟨w.heap.size + 1, 7, none⟩ = some (.slice u.hi.den.a u.hi.den.n u.hi.den.c) := by simp [go_sem]
  have k2_0 : (((w.alloc (.cells #[.bool v.lo.num.g, .slice v.lo.num.a v.lo.num.n v.lo.num.c, .bool v.lo.den.g, .slice v.lo.den.a v.lo.den.n v.lo.den.c, .bool v.hi.num.g, .slice v.hi.num.a v.hi.num.n v.hi.num.c, .bool v.hi.den.g, .slice v.hi.den.a v.hi.den.n v.hi.den.c] 41)).alloc (.cells #[.bool u.lo.num.g, .slice u.lo.num.a u.lo.num.n u.lo.num.c, .bool u.lo.den.g, .slice u.lo.den.a u.lo.den.n u.lo.den.c, .bool u.hi.num.g, .slice u.hi.num.a u.hi.num.n u.hi.num.c, .bool u.hi.den.g, .slice u.hi.den.a u.hi.den.n u.hi.den.c] 41)).alloc (.cells #[.bool false, .slice none 0 0, .bool false, .slice none 0 0, .bool false, .slice none 0 0, .bool false, .slice none 0 0] 41)).cell? ⟨w.heap.size + 1 + 1, 0, none⟩ = some (.bool false) := by simp [go_sem]
  have k2_1 : (((w.alloc (.cells #[.bool v.lo.num.g, .slice v.lo.num.a v.lo.num.n v.lo.num.c, .bool v.lo.den.g, .slice v.lo.den.a v.lo.den.n v.lo.den.c, .bool v.hi.num.g, .slice v.hi.num.a v.hi.num.n v.hi.num.c, .bool v.hi.den.g, .slice v.hi.den.a v.hi.den.n v.hi.den.c] 41)).alloc (.cells #[.bool u.lo.num.g, .slice u.lo.num.a u.lo.num.n u.lo.num.c, .bool u.lo.den.g, .slice u.lo.den.a u.lo.den.n u.lo.den.c, .bool u.hi.num.g, .slice u.hi.num.a u.hi.num.n u.hi.num.c, .bool u.hi.den.g, .slice u.hi.den.a u.hi.den.n u.hi.den.c] 41)).alloc (.cells #[.bool false, .slice none 0 0, .bool false, .slice none 0 0, .bool false, .slice none 0 0, .bool false, .slice none 0 0] 41)).cell? ⟨w.heap.size + 1 + 1, 1, none⟩ = some (.slice none 0 0) := by simp [go_sem]
  have k2_2 : (((w.alloc (.cells #[.bool v.lo.num.g, .slice v.lo.num.a v.lo.num.n v.lo.num.c, .bool v.lo.den.g, .slice v.lo.den.a v.lo.den.n v.lo.den.c, .bool v.hi.num.g, .slice v.hi.num.a v.hi.num.n v.hi.num.c, .bool v.hi.den.g, .slice v.hi.den.a v.hi.den.n v.hi.den.c] 41)).alloc (.cells #[.bool u.lo.num.g, .slice u.lo.num.a u.lo.num.n u.lo.num.c, .bool u.lo.den.g, .slice u.lo.den.a u.lo.den.n u.lo.den.c, .bool u.hi.num.g, .slice u.hi.num.a u.hi.num.n u.hi.num.c, .bool u.hi.den.g, .slice u.hi.den.a u.hi.den.n u.hi.den.c] 41)).alloc (.cells #[.bool false, .slice none 0 0, .bool false, .slice none 0 0, .bool false, .slice none 0 0, .bool false, .slice none 0 0] 41)).cell? ⟨w.heap.size + 1 + 1, 2, none⟩ = some (.bool false) := by simp [go_sem]
  have k2_3 : (((w.alloc (.cells #[.bool v.lo.num.g, .slice v.lo.num.a v.lo.num.n v.lo.num.c, .bool v.lo.den.g, .slice v.lo.den.a v.lo.den.n v.lo.den.c, .bool v.hi.num.g, .slice v.hi.num.a v.hi.num.n v.hi.num.c, .bool v.hi.den.g, .slice v.hi.den.a v.hi.den.n v.hi.den.c] 41)).alloc (.cells #[.bool u.lo.num.g, .slice u.lo.num.a u.lo.num.n u.lo.num.c, .bool u.lo.den.g, .slice u.lo.den.a u.lo.den.n u.lo.den.c, .bool u.hi.num.g, .slice u.hi.num.a u.hi.num.n u.hi.num.c, .bool u.hi.den.g, .slice u.hi.den.a u.hi.den.n u.hi.den.c] 41)).alloc (.cells #[.bool false, .slice none 0 0, .bool false, .slice none 0 0, .bool false, .slice none 0 0, .bool false, .slice none 0 0] 41)).cell? ⟨w.heap.size + 1 + 1, 3, none⟩ = some (.slice none 0 0) := by simp [go_sem]
  have k2_4 : (((w.alloc (.cells #[.bool v.lo.num.g, .slice v.lo.num.a v.lo.num.n v.lo.num.c, .bool v.lo.den.g, .slice v.lo.den.a v.lo.den.n v.lo.den.c, .bool v.hi.num.g, .slice v.hi.num.a v.hi.num.n v.hi.num.c, .bool v.hi.den.g, .slice v.hi.den.a v.hi.den.n v.hi.den.c] 41)).alloc (.cells #[.bool u.lo.num.g, .slice u.lo.num.a u.lo.num.n u.lo.num.c, .bool u.lo.den.g, .slice u.lo.den.a u.lo.den.n u.lo.den.c, .bool u.hi.num.g, .slice u.hi.num.a u.hi.num.n u.hi.num.c, .bool u.hi.den.g, .slice u.hi.den.a u.hi.den.n u.hi.den.c] 41)).alloc (.cells #[.bool false, .slice none 0 0, .bool false, .slice none 0 0, .bool false, .slice none 0 0, .bool false, .slice none 0 0] 41)).cell? ⟨w.heap.size + 1 + 1, 4, none⟩ = some (.bool false) := by simp [go_sem]
  have k2_5 : (((w.alloc (.cells #[.bool v.lo.num.g, .slice v.lo.num.a v.lo.num.n v.lo.num.c, .bool v.lo.den.g, .slice v.lo.den.a v.lo.den.n v.lo.den.c, .bool v.hi.num.g, .slice v.hi.num.a v.hi.num.n v.hi.num.c, .bool v.hi.den.g, .slice v.hi.den.a v.hi.den.n v.hi.den.c] 41)).alloc (.cells #[.bool u.lo.num.g, .slice u.lo.num.a u.lo.num.n u.lo.num.c, .bool u.lo.den.g, .slice u.lo.den.a u.lo.den.n u.lo.den.c, .bool u.hi.num.g, .slice u.hi.num.a u.hi.num.n u.hi.num.c, .bool u.hi.den.g, .slice u.hi.den.a u.hi.den.n u.hi.den.c] 41)).alloc (.cells #[.bool false, .slice none 0 0, .bool false, .slice none 0 0, .bool false, .slice none 0 0, .bool false, .slice none 0 0] 41)).cell? ⟨w.heap.size + 1 + 1, 5, none⟩ = some (.slice none 0 0) := by simp [go_sem]
  have k2_6 : (((w.alloc (.cells #[.bool v.lo.num.g, .slice v.lo.num.a v.lo.num.n v.lo.num.c, .bool v.lo.den.g, .slice v.lo.den.a v.lo.den.n v.lo.den.c, .bool v.hi.num.g, .slice v.hi.num.a v.hi.num.n v.hi.num.c, .bool v.hi.den.g, .slice v.hi.den.a v.hi.den.n v.hi.den.c] 41)).alloc (.cells #[.bool u.lo.num.g, .slice u.lo.num.a u.lo.num.n u.lo.num.c, .bool u.lo.den.g, .slice u.lo.den.a u.lo.den.n u.lo.den.c, .bool u.hi.num.g, .slice u.hi.num.a u.hi.num.n u.hi.num.c, .bool u.hi.den.g, .slice u.hi.den.a u.hi.den.n u.hi.den.c] 41)).alloc (.cells #[.bool false, .slice none 0 0, .bool false, .slice none 0 0, .bool false, .slice none 0 0, .bool false, .slice none 0 0] 41)).cell? ⟨w.heap.size + 1 + 1, 6, none⟩ = some (.bool false) := by simp [go_sem]
  have k2_7 : (((w.alloc (.cells #[.bool v.lo.num.g, .slice v.lo.num.a v.lo.num.n v.lo.num.c, .bool v.lo.den.g, .slice v.lo.den.a v.lo.den.n v.lo.den.c, .bool v.hi.num.g, .slice v.hi.num.a v.hi.num.n v.hi.num.c, .bool v.hi.den.g, .slice v.hi.den.a v.hi.den.n v.hi.den.c] 41)).alloc (.cells #[.bool u.lo.num.g, .slice u.lo.num.a u.lo.num.n u.lo.num.c, .bool u.lo.den.g, .slice u.lo.den.a u.lo.den.n u.lo.den.c, .bool u.hi.num.g, .slice u.hi.num.a u.hi.num.n u.hi.num.c, .bool u.hi.den.g, .slice u.hi.den.a u.hi.den.n u.hi.den.c] 41)).alloc (.cells #[.bool false, .slice none 0 0, .bool false, .slice none 0 0, .bool false, .slice none 0 0, .bool false, .slice none 0 0] 41)).cell? ⟨w.heap.size + 1 + 1, 7, none⟩ = some (.slice none 0 0) := by simp [go_sem]
  have z2 : ∀ o, (((w.alloc (.cells #[.bool v.lo.num.g, .slice v.lo.num.a v.lo.num.n v.lo.num.c, .bool v.lo.den.g, .slice v.lo.den.a v.lo.den.n v.lo.den.c, .bool v.hi.num.g, .slice v.hi.num.a v.hi.num.n v.hi.num.c, .bool v.hi.den.g, .slice v.hi.den.a v.hi.den.n v.hi.den.c] 41)).alloc (.cells #[.bool u.lo.num.g, .slice u.lo.num.a u.lo.num.n u.lo.num.c, .bool u.lo.den.g, .slice u.lo.den.a u.lo.den.n u.lo.den.c, .bool u.hi.num.g, .slice u.hi.num.a u.hi.num.n u.hi.num.c, .bool u.hi.den.g, .slice u.hi.den.a u.hi.den.n u.hi.den.c] 41)).alloc (.cells #[.bool false, .slice none 0 0, .bool false, .slice none 0 0, .bool false, .slice none 0 0, .bool false, .slice none 0 0] 41)).frozen? ⟨w.heap.size + 1 + 1, o, none⟩ = false := fun o => by simp [go_sem]
  have S1 := hide ((unhide J1).later hb)
  have S2 := hide ((unhide J2).later hb)
  have szw0 : w.heap.size + 3 ≤ (((w.alloc (.cells #[.bool v.lo.num.g, .slice v.lo.num.a v.lo.num.n v.lo.num.c, .bool v.lo.den.g, .slice v.lo.den.a v.lo.den.n v.lo.den.c, .bool v.hi.num.g, .slice v.hi.num.a v.hi.num.n v.hi.num.c, .bool v.hi.den.g, .slice v.hi.den.a v.hi.den.n v.hi.den.c] 41)).alloc (.cells #[.bool u.lo.num.g, .slice u.lo.num.a u.lo.num.n u.lo.num.c, .bool u.lo.den.g, .slice u.lo.den.a u.lo.den.n u.lo.den.c, .bool u.hi.num.g, .slice u.hi.num.a u.hi.num.n u.hi.num.c, .bool u.hi.den.g, .slice u.hi.den.a u.hi.den.n u.hi.den.c] 41)).alloc (.cells #[.bool false, .slice none 0 0, .bool false, .slice none 0 0, .bool false, .slice none 0 0, .bool false, .slice none 0 0] 41)).heap.size := by simp
  have HB := hide hb
  clear hb
  generalize (((w.alloc (.cells #[.bool v.lo.num.g, .slice v.lo.num.a v.lo.num.n v.lo.num.c, .bool v.lo.den.g, .slice v.lo.den.a v.lo.den.n v.lo.den.c, .bool v.hi.num.g, .slice v.hi.num.a v.hi.num.n v.hi.num.c, .bool v.hi.den.g, .slice v.hi.den.a v.hi.den.n v.hi.den.c] 41)).alloc (.cells #[.bool u.lo.num.g, .slice u.lo.num.a u.lo.num.n u.lo.num.c, .bool u.lo.den.g, .slice u.lo.den.a u.lo.den.n u.lo.den.c, .bool u.hi.num.g, .slice u.hi.num.a u.hi.num.n u.hi.num.c, .bool u.hi.den.g, .slice u.hi.den.a u.hi.den.n u.hi.den.c] 41)).alloc (.cells #[.bool false, .slice none 0 0, .bool false, .slice none 0 0, .bool false, .slice none 0 0, .bool false, .slice none 0 0] 41)) = w0 at *
  have ne0_2 : w.heap.size ≠ w.heap.size + 1 + 1 := by omega
  have ne1_2 : w.heap.size + 1 ≠ w.heap.size + 1 + 1 := by omega
  go_region_held3 (fun w' => w'.cell? ⟨w.heap.size, 0, none⟩ = some (.bool v.lo.num.g) ∧ w'.cell? ⟨w.heap.size, 1, none⟩ = some (.slice v.lo.num.a v.lo.num.n v.lo.num.c) ∧ w'.cell? ⟨w.heap.size, 2, none⟩ = some (.bool v.lo.den.g) ∧ w'.cell? ⟨w.heap.size, 3, none⟩ = some (.slice v.lo.den.a v.lo.den.n v.lo.den.c) ∧ w'.cell? ⟨w.heap.size, 4, none⟩ = some (.bool v.hi.num.g) ∧ w'.cell? ⟨w.heap.size, 5, none⟩ = some (.slice v.hi.num.a v.hi.num.n v.hi.num.c) ∧ w'.cell? ⟨w.heap.size, 6, none⟩ = some (.bool v.hi.den.g) ∧ w'.cell? ⟨w.heap.size, 7, none⟩ = some (.slice v.hi.den.a v.hi.den.n v.hi.den.c) ∧ w'.cell? ⟨w.heap.size + 1, 0, none⟩ = some (.bool u.lo.num.g) ∧ w'.cell? ⟨w.heap.size + 1, 1, none⟩ = some (.slice u.lo.num.a u.lo.num.n u.lo.num.c) ∧ w'.cell? ⟨w.heap.size + 1, 2, none⟩ = some (.bool u.lo.den.g) ∧ w'.cell? ⟨w.heap.size + 1, 3, none⟩ = some (.slice u.lo.den.a u.lo.den.n u.lo.den.c) ∧ w'.cell? ⟨w.heap.size + 1, 4, none⟩ = some (.bool u.hi.num.g) ∧ w'.cell? ⟨w.heap.size + 1, 5, none⟩ = some (.slice u.hi.num.a u.hi.num.n u.hi.num.c) ∧ w'.cell? ⟨w.heap.size + 1, 6, none⟩ = some (.bool u.hi.den.g) ∧ w'.cell? ⟨w.heap.size + 1, 7, none⟩ = some (.slice u.hi.den.a u.hi.den.n u.hi.den.c)) (with_reducible (first | exact ⟨k0_0, k0_1, k0_2, k0_3, k0_4, k0_5, k0_6, k0_7, k1_0, k1_1, k1_2, k1_3, k1_4, k1_5, k1_6, k1_7⟩ | exact ⟨cd_other k0_0, cd_other k0_1, cd_other k0_2, cd_other k0_3, cd_other k0_4, cd_other k0_5, cd_other k0_6, cd_other k0_7, cd_other k1_0, cd_other k1_1, cd_other k1_2, cd_other k1_3, cd_other k1_4, cd_other k1_5, cd_other k1_6, cd_other k1_7⟩ | exact ⟨ca_other k0_0, ca_other k0_1, ca_other k0_2, ca_other k0_3, ca_other k0_4, ca_other k0_5, ca_other k0_6, ca_other k0_7, ca_other k1_0, ca_other k1_1, ca_other k1_2, ca_other k1_3, ca_other k1_4, ca_other k1_5, ca_other k1_6, ca_other k1_7⟩ | exact ⟨cs_other (cs_other (cs_other (cs_other (cs_other (cs_other (cs_other (cs_other (k0_0) ne0_2) ne0_2) ne0_2) ne0_2) ne0_2) ne0_2) ne0_2) ne0_2, cs_other (cs_other (cs_other (cs_other (cs_other (cs_other (cs_other (cs_other (k0_1) ne0_2) ne0_2) ne0_2) ne0_2) ne0_2) ne0_2) ne0_2) ne0_2, cs_other (cs_other (cs_other (cs_other (cs_other (cs_other (cs_other (cs_other (k0_2) ne0_2) ne0_2) ne0_2) ne0_2) ne0_2) ne0_2) ne0_2) ne0_2, cs_other (cs_other (cs_other (cs_other (cs_other (cs_other (cs_other (cs_other (k0_3) ne0_2) ne0_2) ne0_2) ne0_2) ne0_2) ne0_2) ne0_2) ne0_2, cs_other (cs_other (cs_other (cs_other (cs_other (cs_other (cs_other (cs_other (k0_4) ne0_2) ne0_2) ne0_2) ne0_2) ne0_2) ne0_2) ne0_2) ne0_2, cs_other (cs_other (cs_other (cs_other (cs_other (cs_other (cs_other (cs_other (k0_5) ne0_2) ne0_2) ne0_2) ne0_2) ne0_2) ne0_2) ne0_2) ne0_2, cs_other (cs_other (cs_other (cs_other (cs_other (cs_other (cs_other (cs_other (k0_6) ne0_2) ne0_2) ne0_2) ne0_2) ne0_2) ne0_2) ne0_2) ne0_2, cs_other (cs_other (cs_other (cs_other (cs_other (cs_other (cs_other (cs_other (k0_7) ne0_2) ne0_2) ne0_2) ne0_2) ne0_2) ne0_2) ne0_2) ne0_2, cs_other (cs_other (cs_other (cs_other (cs_other (cs_other (cs_other (cs_other (k1_0) ne1_2) ne1_2) ne1_2) ne1_2) ne1_2) ne1_2) ne1_2) ne1_2, cs_other (cs_other (cs_other (cs_other (cs_other (cs_other (cs_other (cs_other (k1_1) ne1_2) ne1_2) ne1_2) ne1_2) ne1_2) ne1_2) ne1_2) ne1_2, cs_other (cs_other (cs_other (cs_other (cs_other (cs_other (cs_other (cs_other (k1_2) ne1_2) ne1_2) ne1_2) ne1_2) ne1_2) ne1_2) ne1_2) ne1_2, cs_other (cs_other (cs_other (cs_other (cs_other (cs_other (cs_other (cs_other (k1_3) ne1_2) ne1_2) ne1_2) ne1_2) ne1_2) ne1_2) ne1_2) ne1_2, cs_other (cs_other (cs_other (cs_other (cs_other (cs_other (cs_other (cs_other (k1_4) ne1_2) ne1_2) ne1_2) ne1_2) ne1_2) ne1_2) ne1_2) ne1_2, cs_other (cs_other (cs_other (cs_other (cs_other (cs_other (cs_other (cs_other (k1_5) ne1_2) ne1_2) ne1_2) ne1_2) ne1_2) ne1_2) ne1_2) ne1_2, cs_other (cs_other (cs_other (cs_other (cs_other (cs_other (cs_other (cs_other (k1_6) ne1_2) ne1_2) ne1_2) ne1_2) ne1_2) ne1_2) ne1_2) ne1_2, cs_other (cs_other (cs_other (cs_other (cs_other (cs_other (cs_other (cs_other (k1_7) ne1_2) ne1_2) ne1_2) ne1_2) ne1_2) ne1_2) ne1_2) ne1_2⟩ | fail))
    (first
    | (have chk := Px4; clear chk; go_at_call 164; refine (leastI ⟨x1, lowN (nQ d.lo * nQ e.lo) (dQ d.lo * dQ e.lo), lowD (nQ d.lo * nQ e.lo) (dQ d.lo * dQ e.lo)⟩ w4b.heap.size 0 3 3 [⟨x2, lowN (nQ d.lo * nQ e.hi) (dQ d.lo * dQ e.hi), lowD (nQ d.lo * nQ e.hi) (dQ d.lo * dQ e.hi)⟩, ⟨x3, lowN (nQ d.hi * nQ e.lo) (dQ d.hi * dQ e.lo), lowD (nQ d.hi * nQ e.lo) (dQ d.hi * dQ e.lo)⟩, ⟨x4, lowN (nQ d.hi * nQ e.hi) (dQ d.hi * dQ e.hi), lowD (nQ d.hi * nQ e.hi) (dQ d.hi * dQ e.hi)⟩] _ ?_ ?_ rfl (by omega)).mono ?_; (exact ⟨(unhide Px1).later ((Below.refl _ _).alloc (Nat.le_refl _) _), (mBd (unhide J1).lo (unhide J2).lo).1, (mBd (unhide J1).lo (unhide J2).lo).2⟩); (exact rats_3 (r1 := ⟨x2, lowN (nQ d.lo * nQ e.hi) (dQ d.lo * dQ e.hi), lowD (nQ d.lo * nQ e.hi) (dQ d.lo * dQ e.hi)⟩) (r2 := ⟨x3, lowN (nQ d.hi * nQ e.lo) (dQ d.hi * dQ e.lo), lowD (nQ d.hi * nQ e.lo) (dQ d.hi * dQ e.lo)⟩) (r3 := ⟨x4, lowN (nQ d.hi * nQ e.hi) (dQ d.hi * dQ e.hi), lowD (nQ d.hi * nQ e.hi) (dQ d.hi * dQ e.hi)⟩) ⟨(unhide Px2), (mBd (unhide J1).lo (unhide J2).hi).1, (mBd (unhide J1).lo (unhide J2).hi).2⟩ ⟨(unhide Px3), (mBd (unhide J1).hi (unhide J2).lo).1, (mBd (unhide J1).hi (unhide J2).lo).2⟩ ⟨(unhide Px4), (mBd (unhide J1).hi (unhide J2).hi).1, (mBd (unhide J1).hi (unhide J2).hi).2⟩); rintro e w5b ⟨r, xs, us, ys, vs, rfl, hb0, or, ar, n1, n2, n3, n4⟩; have hb := ba hb0; have szl := hb0.size; (try simp at szl); have hbx : Below w4b.heap.size w4b w5b := hb; have szw5b := hbx.size; replace z2 := fun o => frozen_later hbx (World.block_lt_of_cell? _ _ k2_0) (z2 o); replace k0_0 := cell_later hbx k0_0; replace k0_1 := cell_later hbx k0_1; replace k0_2 := cell_later hbx k0_2; replace k0_3 := cell_later hbx k0_3; replace k0_4 := cell_later hbx k0_4; replace k0_5 := cell_later hbx k0_5; replace k0_6 := cell_later hbx k0_6; replace k0_7 := cell_later hbx k0_7; replace k1_0 := cell_later hbx k1_0; replace k1_1 := cell_later hbx k1_1; replace k1_2 := cell_later hbx k1_2; replace k1_3 := cell_later hbx k1_3; replace k1_4 := cell_later hbx k1_4; replace k1_5 := cell_later hbx k1_5; replace k1_6 := cell_later hbx k1_6; replace k1_7 := cell_later hbx k1_7; replace k2_0 := cell_later hbx k2_0; replace k2_1 := cell_later hbx k2_1; replace k2_2 := cell_later hbx k2_2; replace k2_3 := cell_later hbx k2_3; replace k2_4 := cell_later hbx k2_4; replace k2_5 := cell_later hbx k2_5; replace k2_6 := cell_later hbx k2_6; replace k2_7 := cell_later hbx k2_7; replace S1 := hide ((unhide S1).later hbx); replace S2 := hide ((unhide S2).later hbx); replace Px1 := hide ((unhide Px1).later hbx); replace Px2 := hide ((unhide Px2).later hbx); replace Px3 := hide ((unhide Px3).later hbx); replace Px4 := hide ((unhide Px4).later hbx); have OR := hide (And.intro or (And.intro ar (And.intro n1 (And.intro n2 (And.intro n3 n4))))); have HBr := hide (below_on (unhide HBr) hbx); clear hbx hb or ar n1 n2 n3 n4 hb0)
    | (have chk := Px3; clear chk; go_at_call 88; refine (mulQI v.hi u.hi _ _ _ _ _ ?_ ?_ (mNz (unhide J1).hi (unhide J2).hi) ((unhide J1).hi.kn.mono (by omega)) ((unhide J1).hi.kd.mono (by omega)) ((unhide J2).hi.kn.mono (by omega)) ((unhide J2).hi.kd.mono (by omega))).mono ?_; exact (unhide S1).hi.is.later (Below.refl _ _); exact (unhide S2).hi.is.later (Below.refl _ _); rintro e w4b ⟨x4, lx4, mx4, rfl, hb, o4, a4, n4, k4⟩; have hbx : Below w3b.heap.size w3b w4b := hb; have szw4b := hbx.size; replace z2 := fun o => frozen_later hbx (World.block_lt_of_cell? _ _ k2_0) (z2 o); replace k0_0 := cell_later hbx k0_0; replace k0_1 := cell_later hbx k0_1; replace k0_2 := cell_later hbx k0_2; replace k0_3 := cell_later hbx k0_3; replace k0_4 := cell_later hbx k0_4; replace k0_5 := cell_later hbx k0_5; replace k0_6 := cell_later hbx k0_6; replace k0_7 := cell_later hbx k0_7; replace k1_0 := cell_later hbx k1_0; replace k1_1 := cell_later hbx k1_1; replace k1_2 := cell_later hbx k1_2; replace k1_3 := cell_later hbx k1_3; replace k1_4 := cell_later hbx k1_4; replace k1_5 := cell_later hbx k1_5; replace k1_6 := cell_later hbx k1_6; replace k1_7 := cell_later hbx k1_7; replace k2_0 := cell_later hbx k2_0; replace k2_1 := cell_later hbx k2_1; replace k2_2 := cell_later hbx k2_2; replace k2_3 := cell_later hbx k2_3; replace k2_4 := cell_later hbx k2_4; replace k2_5 := cell_later hbx k2_5; replace k2_6 := cell_later hbx k2_6; replace k2_7 := cell_later hbx k2_7; replace S1 := hide ((unhide S1).later hbx); replace S2 := hide ((unhide S2).later hbx); replace Px1 := hide ((unhide Px1).later hbx); replace Px2 := hide ((unhide Px2).later hbx); replace Px3 := hide ((unhide Px3).later hbx); have Px4 := hide (isQ_of a4 n4 k4); have HBr := hide (below_on (unhide HBr) hbx); clear hbx hb o4 a4 n4 k4)
    | (have chk := Px2; clear chk; go_at_call 88; refine (mulQI v.hi u.lo _ _ _ _ _ ?_ ?_ (mNz (unhide J1).hi (unhide J2).lo) ((unhide J1).hi.kn.mono (by omega)) ((unhide J1).hi.kd.mono (by omega)) ((unhide J2).lo.kn.mono (by omega)) ((unhide J2).lo.kd.mono (by omega))).mono ?_; exact (unhide S1).hi.is.later (Below.refl _ _); exact (unhide S2).lo.is.later (Below.refl _ _); rintro e w3b ⟨x3, lx3, mx3, rfl, hb, o3, a3, n3, k3⟩; have hbx : Below w2b.heap.size w2b w3b := hb; have szw3b := hbx.size; replace z2 := fun o => frozen_later hbx (World.block_lt_of_cell? _ _ k2_0) (z2 o); replace k0_0 := cell_later hbx k0_0; replace k0_1 := cell_later hbx k0_1; replace k0_2 := cell_later hbx k0_2; replace k0_3 := cell_later hbx k0_3; replace k0_4 := cell_later hbx k0_4; replace k0_5 := cell_later hbx k0_5; replace k0_6 := cell_later hbx k0_6; replace k0_7 := cell_later hbx k0_7; replace k1_0 := cell_later hbx k1_0; replace k1_1 := cell_later hbx k1_1; replace k1_2 := cell_later hbx k1_2; replace k1_3 := cell_later hbx k1_3; replace k1_4 := cell_later hbx k1_4; replace k1_5 := cell_later hbx k1_5; replace k1_6 := cell_later hbx k1_6; replace k1_7 := cell_later hbx k1_7; replace k2_0 := cell_later hbx k2_0; replace k2_1 := cell_later hbx k2_1; replace k2_2 := cell_later hbx k2_2; replace k2_3 := cell_later hbx k2_3; replace k2_4 := cell_later hbx k2_4; replace k2_5 := cell_later hbx k2_5; replace k2_6 := cell_later hbx k2_6; replace k2_7 := cell_later hbx k2_7; replace S1 := hide ((unhide S1).later hbx); replace S2 := hide ((unhide S2).later hbx); replace Px1 := hide ((unhide Px1).later hbx); replace Px2 := hide ((unhide Px2).later hbx); have Px3 := hide (isQ_of a3 n3 k3); have HBr := hide (below_on (unhide HBr) hbx); clear hbx hb o3 a3 n3 k3)
    | (have chk := Px1; clear chk; go_at_call 88; refine (mulQI v.lo u.hi _ _ _ _ _ ?_ ?_ (mNz (unhide J1).lo (unhide J2).hi) ((unhide J1).lo.kn.mono (by omega)) ((unhide J1).lo.kd.mono (by omega)) ((unhide J2).hi.kn.mono (by omega)) ((unhide J2).hi.kd.mono (by omega))).mono ?_; exact (unhide S1).lo.is.later (Below.refl _ _); exact (unhide S2).hi.is.later (Below.refl _ _); rintro e w2b ⟨x2, lx2, mx2, rfl, hb, o2, a2, n2, k2⟩; have hbx : Below w1b.heap.size w1b w2b := hb; have szw2b := hbx.size; replace z2 := fun o => frozen_later hbx (World.block_lt_of_cell? _ _ k2_0) (z2 o); replace k0_0 := cell_later hbx k0_0; replace k0_1 := cell_later hbx k0_1; replace k0_2 := cell_later hbx k0_2; replace k0_3 := cell_later hbx k0_3; replace k0_4 := cell_later hbx k0_4; replace k0_5 := cell_later hbx k0_5; replace k0_6 := cell_later hbx k0_6; replace k0_7 := cell_later hbx k0_7; replace k1_0 := cell_later hbx k1_0; replace k1_1 := cell_later hbx k1_1; replace k1_2 := cell_later hbx k1_2; replace k1_3 := cell_later hbx k1_3; replace k1_4 := cell_later hbx k1_4; replace k1_5 := cell_later hbx k1_5; replace k1_6 := cell_later hbx k1_6; replace k1_7 := cell_later hbx k1_7; replace k2_0 := cell_later hbx k2_0; replace k2_1 := cell_later hbx k2_1; replace k2_2 := cell_later hbx k2_2; replace k2_3 := cell_later hbx k2_3; replace k2_4 := cell_later hbx k2_4; replace k2_5 := cell_later hbx k2_5; replace k2_6 := cell_later hbx k2_6; replace k2_7 := cell_later hbx k2_7; replace S1 := hide ((unhide S1).later hbx); replace S2 := hide ((unhide S2).later hbx); replace Px1 := hide ((unhide Px1).later hbx); have Px2 := hide (isQ_of a2 n2 k2); have HBr := hide (below_on (unhide HBr) hbx); clear hbx hb o2 a2 n2 k2)
    | (go_at_call 88; refine (mulQI v.lo u.lo _ _ _ _ _ ?_ ?_ (mNz (unhide J1).lo (unhide J2).lo) ((unhide J1).lo.kn.mono (by omega)) ((unhide J1).lo.kd.mono (by omega)) ((unhide J2).lo.kn.mono (by omega)) ((unhide J2).lo.kd.mono (by omega))).mono ?_; exact (unhide S1).lo.is.later (Below.refl _ _).drew; exact (unhide S2).lo.is.later (Below.refl _ _).drew; rintro e w1b ⟨x1, lx1, mx1, rfl, hb, o1, a1, n1, k1⟩; have hbx : Below w0.heap.size w0 w1b := below_of_drew hb; have szw1b := hbx.size; replace z2 := fun o => frozen_later hbx (World.block_lt_of_cell? _ _ k2_0) (z2 o); replace k0_0 := cell_later hbx k0_0; replace k0_1 := cell_later hbx k0_1; replace k0_2 := cell_later hbx k0_2; replace k0_3 := cell_later hbx k0_3; replace k0_4 := cell_later hbx k0_4; replace k0_5 := cell_later hbx k0_5; replace k0_6 := cell_later hbx k0_6; replace k0_7 := cell_later hbx k0_7; replace k1_0 := cell_later hbx k1_0; replace k1_1 := cell_later hbx k1_1; replace k1_2 := cell_later hbx k1_2; replace k1_3 := cell_later hbx k1_3; replace k1_4 := cell_later hbx k1_4; replace k1_5 := cell_later hbx k1_5; replace k1_6 := cell_later hbx k1_6; replace k1_7 := cell_later hbx k1_7; replace k2_0 := cell_later hbx k2_0; replace k2_1 := cell_later hbx k2_1; replace k2_2 := cell_later hbx k2_2; replace k2_3 := cell_later hbx k2_3; replace k2_4 := cell_later hbx k2_4; replace k2_5 := cell_later hbx k2_5; replace k2_6 := cell_later hbx k2_6; replace k2_7 := cell_later hbx k2_7; replace S1 := hide ((unhide S1).later hbx); replace S2 := hide ((unhide S2).later hbx); have Px1 := hide (isQ_of a1 n1 k1); have HBr := hide hbx; clear hbx hb o1 a1 n1 k1))
  replace HB := hide (below_on (unhide HB) (unhide HBr))
  clear HBr
  go_wp2
  refine bodyPost_ret (v := .agg #[.bool r.lo.num.g, .slice r.lo.num.a r.lo.num.n r.lo.num.c, .bool r.lo.den.g, .slice r.lo.den.a r.lo.den.n r.lo.den.c, .bool r.hi.num.g, .slice r.hi.num.a r.hi.num.n r.hi.num.c, .bool r.hi.den.g, .slice r.hi.den.a r.hi.den.n r.hi.den.c]) (by simp [results, Try.results104, go_sem, k2_0, k2_1, k2_2, k2_3, k2_4, k2_5, k2_6, k2_7]) rfl ?_
  have oo := (unhide OR).1
  have aa := (unhide OR).2.1
  have n1 := (unhide OR).2.2.1
  have n2 := (unhide OR).2.2.2.1
  have n3 := (unhide OR).2.2.2.2.1
  have n4 := (unhide OR).2.2.2.2.2
  have f1 := fold_lo ([⟨x2, lowN (nQ d.lo * nQ e.hi) (dQ d.lo * dQ e.hi), lowD (nQ d.lo * nQ e.hi) (dQ d.lo * dQ e.hi)⟩, ⟨x3, lowN (nQ d.hi * nQ e.lo) (dQ d.hi * dQ e.lo), lowD (nQ d.hi * nQ e.lo) (dQ d.hi * dQ e.lo)⟩, ⟨x4, lowN (nQ d.hi * nQ e.hi) (dQ d.hi * dQ e.hi), lowD (nQ d.hi * nQ e.hi) (dQ d.hi * dQ e.hi)⟩] : List RQ) (⟨x1, lowN (nQ d.lo * nQ e.lo) (dQ d.lo * dQ e.lo), lowD (nQ d.lo * nQ e.lo) (dQ d.lo * dQ e.lo)⟩ : RQ)
  have f2 := fold_hi ([⟨x2, lowN (nQ d.lo * nQ e.hi) (dQ d.lo * dQ e.hi), lowD (nQ d.lo * nQ e.hi) (dQ d.lo * dQ e.hi)⟩, ⟨x3, lowN (nQ d.hi * nQ e.lo) (dQ d.hi * dQ e.lo), lowD (nQ d.hi * nQ e.lo) (dQ d.hi * dQ e.lo)⟩, ⟨x4, lowN (nQ d.hi * nQ e.hi) (dQ d.hi * dQ e.hi), lowD (nQ d.hi * nQ e.hi) (dQ d.hi * dQ e.hi)⟩] : List RQ) (⟨x1, lowN (nQ d.lo * nQ e.lo) (dQ d.lo * dQ e.lo), lowD (nQ d.lo * nQ e.lo) (dQ d.lo * dQ e.lo)⟩ : RQ)
  have e1 : (List.foldl stLo (⟨x1, lowN (nQ d.lo * nQ e.lo) (dQ d.lo * dQ e.lo), lowD (nQ d.lo * nQ e.lo) (dQ d.lo * dQ e.lo)⟩ : RQ) [⟨x2, lowN (nQ d.lo * nQ e.hi) (dQ d.lo * dQ e.hi), lowD (nQ d.lo * nQ e.hi) (dQ d.lo * dQ e.hi)⟩, ⟨x3, lowN (nQ d.hi * nQ e.lo) (dQ d.hi * dQ e.lo), lowD (nQ d.hi * nQ e.lo) (dQ d.hi * dQ e.lo)⟩, ⟨x4, lowN (nQ d.hi * nQ e.hi) (dQ d.hi * dQ e.hi), lowD (nQ d.hi * nQ e.hi) (dQ d.hi * dQ e.hi)⟩]).N = (mLo d e).1 := congrArg Prod.fst (f1)
  have e2 : (List.foldl stLo (⟨x1, lowN (nQ d.lo * nQ e.lo) (dQ d.lo * dQ e.lo), lowD (nQ d.lo * nQ e.lo) (dQ d.lo * dQ e.lo)⟩ : RQ) [⟨x2, lowN (nQ d.lo * nQ e.hi) (dQ d.lo * dQ e.hi), lowD (nQ d.lo * nQ e.hi) (dQ d.lo * dQ e.hi)⟩, ⟨x3, lowN (nQ d.hi * nQ e.lo) (dQ d.hi * dQ e.lo), lowD (nQ d.hi * nQ e.lo) (dQ d.hi * dQ e.lo)⟩, ⟨x4, lowN (nQ d.hi * nQ e.hi) (dQ d.hi * dQ e.hi), lowD (nQ d.hi * nQ e.hi) (dQ d.hi * dQ e.hi)⟩]).D = (mLo d e).2 := congrArg Prod.snd (f1)
  have e3 : (List.foldl stHi (⟨x1, lowN (nQ d.lo * nQ e.lo) (dQ d.lo * dQ e.lo), lowD (nQ d.lo * nQ e.lo) (dQ d.lo * dQ e.lo)⟩ : RQ) [⟨x2, lowN (nQ d.lo * nQ e.hi) (dQ d.lo * dQ e.hi), lowD (nQ d.lo * nQ e.hi) (dQ d.lo * dQ e.hi)⟩, ⟨x3, lowN (nQ d.hi * nQ e.lo) (dQ d.hi * dQ e.lo), lowD (nQ d.hi * nQ e.lo) (dQ d.hi * dQ e.lo)⟩, ⟨x4, lowN (nQ d.hi * nQ e.hi) (dQ d.hi * dQ e.hi), lowD (nQ d.hi * nQ e.hi) (dQ d.hi * dQ e.hi)⟩]).N = (mHi d e).1 := congrArg Prod.fst (f2)
  have e4 : (List.foldl stHi (⟨x1, lowN (nQ d.lo * nQ e.lo) (dQ d.lo * dQ e.lo), lowD (nQ d.lo * nQ e.lo) (dQ d.lo * dQ e.lo)⟩ : RQ) [⟨x2, lowN (nQ d.lo * nQ e.hi) (dQ d.lo * dQ e.hi), lowD (nQ d.lo * nQ e.hi) (dQ d.lo * dQ e.hi)⟩, ⟨x3, lowN (nQ d.hi * nQ e.lo) (dQ d.hi * dQ e.lo), lowD (nQ d.hi * nQ e.lo) (dQ d.hi * dQ e.lo)⟩, ⟨x4, lowN (nQ d.hi * nQ e.hi) (dQ d.hi * dQ e.hi), lowD (nQ d.hi * nQ e.hi) (dQ d.hi * dQ e.hi)⟩]).D = (mHi d e).2 := congrArg Prod.snd (f2)
  rw [e1, e2, e3, e4] at oo aa
  rw [e1] at n1
  rw [e2] at n2
  rw [e3] at n3
  rw [e4] at n4
  exact outS_fin (v := r) (R := w.heap.size + 1 + 1) (by omega) (unhide HB) (metS_but (w5 := w5b) (v := r) (G := w.heap.size + 1 + 1)) (oo.wide (by simp; omega) (Nat.le_refl _)) aa n1 n2 n3 n4

set_option maxHeartbeats 4000000 in
theorem ofMulS (v u : SV) (d e : SD) (w : World) (h : AllAr w [(v.lo.num, d.lo.num), (v.lo.den, d.lo.den), (v.hi.num, d.hi.num), (v.hi.den, d.hi.den)]) (h' : AllAr w [(u.lo.num, e.lo.num), (u.lo.den, e.lo.den), (u.hi.num, e.hi.num), (u.hi.den, e.hi.den)]) :
    Calls Try.prog 100 #[.agg #[.bool v.lo.num.g, .slice v.lo.num.a v.lo.num.n v.lo.num.c, .bool v.lo.den.g, .slice v.lo.den.a v.lo.den.n v.lo.den.c, .bool v.hi.num.g, .slice v.hi.num.a v.hi.num.n v.hi.num.c, .bool v.hi.den.g, .slice v.hi.den.a v.hi.den.n v.hi.den.c], .agg #[.bool u.lo.num.g, .slice u.lo.num.a u.lo.num.n u.lo.num.c, .bool u.lo.den.g, .slice u.lo.den.a u.lo.den.n u.lo.den.c, .bool u.hi.num.g, .slice u.hi.num.a u.hi.num.n u.hi.num.c, .bool u.hi.den.g, .slice u.hi.den.a u.hi.den.n u.hi.den.c], .func (Fn.func 104) #[] #[]] w (RetS w (AnsS (gS d && gS e) (mLo d e).1 (mLo d e).2 (mHi d e).1 (mHi d e).2)) := by
  have H1 := hide h
  have H2 := hide h'
  clear h h'
  cases hg1 : gS d
  · have G1 := hide (fun w1 (k : AllAr w1 [(v.lo.num, d.lo.num), (v.lo.den, d.lo.den), (v.hi.num, d.hi.num), (v.hi.den, d.hi.den)]) => goodSI v d w1 k)
    have G2 := hide (fun w1 (k : AllAr w1 [(u.lo.num, e.lo.num), (u.lo.den, e.lo.den), (u.hi.num, e.hi.num), (u.hi.den, e.hi.den)]) => goodSI u e w1 k)
    rw [hg1] at G1
    rw [Bool.false_and]
    clear hg1
    have B0 := hide (show Below w.heap.size w (((w.alloc (.cells #[.bool v.lo.num.g, .slice v.lo.num.a v.lo.num.n v.lo.num.c, .bool v.lo.den.g, .slice v.lo.den.a v.lo.den.n v.lo.den.c, .bool v.hi.num.g, .slice v.hi.num.a v.hi.num.n v.hi.num.c, .bool v.hi.den.g, .slice v.hi.den.a v.hi.den.n v.hi.den.c] 41)).alloc (.cells #[.bool u.lo.num.g, .slice u.lo.num.a u.lo.num.n u.lo.num.c, .bool u.lo.den.g, .slice u.lo.den.a u.lo.den.n u.lo.den.c, .bool u.hi.num.g, .slice u.hi.num.a u.hi.num.n u.hi.num.c, .bool u.hi.den.g, .slice u.hi.den.a u.hi.den.n u.hi.den.c] 41)).alloc (.cells #[.bool false, .slice none 0 0, .bool false, .slice none 0 0, .bool false, .slice none 0 0, .bool false, .slice none 0 0] 41)) from ((((Below.refl _ _).alloc (by simp) _).alloc (by simp) _).alloc (by simp <;> omega) _))
    go_enter Try.func100, Try.ntmps100
    go_wp2_with fail
    refine (unhide G1 _ ((unhide H1).later (unhide B0))).mono ?_
    rintro e w1 ⟨rfl, hb⟩
    have s1 : w.heap.size + 1 + 1 < w1.heap.size := by have := hb.size; simp at this; omega
    have k2_0 : w1.cell? ⟨w.heap.size + 1 + 1, 0, none⟩ = some (.bool false) := cell_later hb (by simp [go_sem])
    have k2_1 : w1.cell? ⟨w.heap.size + 1 + 1, 1, none⟩ = some (.slice none 0 0) := cell_later hb (by simp [go_sem])
    have k2_2 : w1.cell? ⟨w.heap.size + 1 + 1, 2, none⟩ = some (.bool false) := cell_later hb (by simp [go_sem])
    have k2_3 : w1.cell? ⟨w.heap.size + 1 + 1, 3, none⟩ = some (.slice none 0 0) := cell_later hb (by simp [go_sem])
    have k2_4 : w1.cell? ⟨w.heap.size + 1 + 1, 4, none⟩ = some (.bool false) := cell_later hb (by simp [go_sem])
    have k2_5 : w1.cell? ⟨w.heap.size + 1 + 1, 5, none⟩ = some (.slice none 0 0) := cell_later hb (by simp [go_sem])
    have k2_6 : w1.cell? ⟨w.heap.size + 1 + 1, 6, none⟩ = some (.bool false) := cell_later hb (by simp [go_sem])
    have k2_7 : w1.cell? ⟨w.heap.size + 1 + 1, 7, none⟩ = some (.slice none 0 0) := cell_later hb (by simp [go_sem])
    have z2 : ∀ o, w1.frozen? ⟨w.heap.size + 1 + 1, o, none⟩ = false := fun o => frozen_later hb (by simp) (by simp [go_sem])
    have HB := hide (below_on (unhide B0) hb)
    clear hb
    go_wp2
    refine bodyPost_ret (v := .tuple #[.agg #[.bool false, .slice none 0 0, .bool false, .slice none 0 0, .bool false, .slice none 0 0, .bool false, .slice none 0 0], .bool false]) (by simp [results, Try.results100, go_sem, k2_0, k2_1, k2_2, k2_3, k2_4, k2_5, k2_6, k2_7]) rfl ?_
    exact retS_fin (v := (⟨⟨⟨false, none, 0, 0⟩, ⟨false, none, 0, 0⟩⟩, ⟨⟨false, none, 0, 0⟩, ⟨false, none, 0, 0⟩⟩⟩ : SV)) (d := (⟨⟨⟨false, []⟩, ⟨false, []⟩⟩, ⟨⟨false, []⟩, ⟨false, []⟩⟩⟩ : SD)) (R := w.heap.size + 1 + 1) (by omega) (unhide HB) (metS_but (w5 := w1) (v := (⟨⟨⟨false, none, 0, 0⟩, ⟨false, none, 0, 0⟩⟩, ⟨⟨false, none, 0, 0⟩, ⟨false, none, 0, 0⟩⟩⟩ : SV)) (G := w.heap.size + 1 + 1)) (zeroS _ _ _) (ansS_none _ _ _ _)
  · cases hg2 : gS e
    · have G1 := hide (fun w1 (k : AllAr w1 [(v.lo.num, d.lo.num), (v.lo.den, d.lo.den), (v.hi.num, d.hi.num), (v.hi.den, d.hi.den)]) => goodSI v d w1 k)
      have G2 := hide (fun w1 (k : AllAr w1 [(u.lo.num, e.lo.num), (u.lo.den, e.lo.den), (u.hi.num, e.hi.num), (u.hi.den, e.hi.den)]) => goodSI u e w1 k)
      rw [hg1] at G1
      rw [hg2] at G2
      rw [Bool.true_and]
      clear hg1 hg2
      have B0 := hide (show Below w.heap.size w (((w.alloc (.cells #[.bool v.lo.num.g, .slice v.lo.num.a v.lo.num.n v.lo.num.c, .bool v.lo.den.g, .slice v.lo.den.a v.lo.den.n v.lo.den.c, .bool v.hi.num.g, .slice v.hi.num.a v.hi.num.n v.hi.num.c, .bool v.hi.den.g, .slice v.hi.den.a v.hi.den.n v.hi.den.c] 41)).alloc (.cells #[.bool u.lo.num.g, .slice u.lo.num.a u.lo.num.n u.lo.num.c, .bool u.lo.den.g, .slice u.lo.den.a u.lo.den.n u.lo.den.c, .bool u.hi.num.g, .slice u.hi.num.a u.hi.num.n u.hi.num.c, .bool u.hi.den.g, .slice u.hi.den.a u.hi.den.n u.hi.den.c] 41)).alloc (.cells #[.bool false, .slice none 0 0, .bool false, .slice none 0 0, .bool false, .slice none 0 0, .bool false, .slice none 0 0] 41)) from ((((Below.refl _ _).alloc (by simp) _).alloc (by simp) _).alloc (by simp <;> omega) _))
      go_enter Try.func100, Try.ntmps100
      go_wp2_with fail
      refine (unhide G1 _ ((unhide H1).later (unhide B0))).mono ?_
      rintro e w1 ⟨rfl, hb⟩
      have s1 : w.heap.size + 1 + 1 < w1.heap.size := by have := hb.size; simp at this; omega
      have k1_0 : w1.cell? ⟨w.heap.size + 1, 0, none⟩ = some (.bool u.lo.num.g) := cell_later hb (by simp [go_sem])
      have k1_1 : w1.cell? ⟨w.heap.size + 1, 1, none⟩ = some (.slice u.lo.num.a u.lo.num.n u.lo.num.c) := cell_later hb (by simp [go_sem])
      have k1_2 : w1.cell? ⟨w.heap.size + 1, 2, none⟩ = some (.bool u.lo.den.g) := cell_later hb (by simp [go_sem])
      have k1_3 : w1.cell? ⟨w.heap.size + 1, 3, none⟩ = some (.slice u.lo.den.a u.lo.den.n u.lo.den.c) := cell_later hb (by simp [go_sem])
      have k1_4 : w1.cell? ⟨w.heap.size + 1, 4, none⟩ = some (.bool u.hi.num.g) := cell_later hb (by simp [go_sem])
      have k1_5 : w1.cell? ⟨w.heap.size + 1, 5, none⟩ = some (.slice u.hi.num.a u.hi.num.n u.hi.num.c) := cell_later hb (by simp [go_sem])
      have k1_6 : w1.cell? ⟨w.heap.size + 1, 6, none⟩ = some (.bool u.hi.den.g) := cell_later hb (by simp [go_sem])
      have k1_7 : w1.cell? ⟨w.heap.size + 1, 7, none⟩ = some (.slice u.hi.den.a u.hi.den.n u.hi.den.c) := cell_later hb (by simp [go_sem])
      have k2_0 : w1.cell? ⟨w.heap.size + 1 + 1, 0, none⟩ = some (.bool false) := cell_later hb (by simp [go_sem])
      have k2_1 : w1.cell? ⟨w.heap.size + 1 + 1, 1, none⟩ = some (.slice none 0 0) := cell_later hb (by simp [go_sem])
      have k2_2 : w1.cell? ⟨w.heap.size + 1 + 1, 2, none⟩ = some (.bool false) := cell_later hb (by simp [go_sem])
      have k2_3 : w1.cell? ⟨w.heap.size + 1 + 1, 3, none⟩ = some (.slice none 0 0) := cell_later hb (by simp [go_sem])
      have k2_4 : w1.cell? ⟨w.heap.size + 1 + 1, 4, none⟩ = some (.bool false) := cell_later hb (by simp [go_sem])
      have k2_5 : w1.cell? ⟨w.heap.size + 1 + 1, 5, none⟩ = some (.slice none 0 0) := cell_later hb (by simp [go_sem])
      have k2_6 : w1.cell? ⟨w.heap.size + 1 + 1, 6, none⟩ = some (.bool false) := cell_later hb (by simp [go_sem])
      have k2_7 : w1.cell? ⟨w.heap.size + 1 + 1, 7, none⟩ = some (.slice none 0 0) := cell_later hb (by simp [go_sem])
      have z2 : ∀ o, w1.frozen? ⟨w.heap.size + 1 + 1, o, none⟩ = false := fun o => frozen_later hb (by simp) (by simp [go_sem])
      have HB := hide (below_on (unhide B0) hb)
      clear hb
      go_wp2_with fail
      refine (unhide G2 _ ((unhide H2).later (unhide HB))).mono ?_
      rintro e w2 ⟨rfl, hb⟩
      have s2 := hb.size
      replace z2 := fun o => frozen_later hb (World.block_lt_of_cell? _ _ k2_0) (z2 o)
      replace k2_0 := cell_later hb k2_0
      replace k2_1 := cell_later hb k2_1
      replace k2_2 := cell_later hb k2_2
      replace k2_3 := cell_later hb k2_3
      replace k2_4 := cell_later hb k2_4
      replace k2_5 := cell_later hb k2_5
      replace k2_6 := cell_later hb k2_6
      replace k2_7 := cell_later hb k2_7
      clear k1_0 k1_1 k1_2 k1_3 k1_4 k1_5 k1_6 k1_7
      replace HB := hide (below_on (unhide HB) hb)
      clear hb
      go_wp2
      refine bodyPost_ret (v := .tuple #[.agg #[.bool false, .slice none 0 0, .bool false, .slice none 0 0, .bool false, .slice none 0 0, .bool false, .slice none 0 0], .bool false]) (by simp [results, Try.results100, go_sem, k2_0, k2_1, k2_2, k2_3, k2_4, k2_5, k2_6, k2_7]) rfl ?_
      exact retS_fin (v := (⟨⟨⟨false, none, 0, 0⟩, ⟨false, none, 0, 0⟩⟩, ⟨⟨false, none, 0, 0⟩, ⟨false, none, 0, 0⟩⟩⟩ : SV)) (d := (⟨⟨⟨false, []⟩, ⟨false, []⟩⟩, ⟨⟨false, []⟩, ⟨false, []⟩⟩⟩ : SD)) (R := w.heap.size + 1 + 1) (by omega) (unhide HB) (metS_but (w5 := w2) (v := (⟨⟨⟨false, none, 0, 0⟩, ⟨false, none, 0, 0⟩⟩, ⟨⟨false, none, 0, 0⟩, ⟨false, none, 0, 0⟩⟩⟩ : SV)) (G := w.heap.size + 1 + 1)) (zeroS _ _ _) (ansS_none _ _ _ _)
    · have G1 := hide (fun w1 (k : AllAr w1 [(v.lo.num, d.lo.num), (v.lo.den, d.lo.den), (v.hi.num, d.hi.num), (v.hi.den, d.hi.den)]) => goodSI v d w1 k)
      have G2 := hide (fun w1 (k : AllAr w1 [(u.lo.num, e.lo.num), (u.lo.den, e.lo.den), (u.hi.num, e.hi.num), (u.hi.den, e.hi.den)]) => goodSI u e w1 k)
      rw [hg1] at G1
      rw [hg2] at G2
      have j1 := isGoodS_of (unhide H1) hg1
      have j2 := isGoodS_of (unhide H2) hg2
      have NZ : Hid ((mLo d e).2 ≠ 0 ∧ (mHi d e).2 ≠ 0) := hide ⟨by have := (mPos j1 j2).1; omega, by have := (mPos j1 j2).2; omega⟩
      have J1 := hide j1
      have J2 := hide j2
      rw [Bool.true_and]
      clear hg1 hg2 j1 j2
      have B0 := hide (show Below w.heap.size w (((w.alloc (.cells #[.bool v.lo.num.g, .slice v.lo.num.a v.lo.num.n v.lo.num.c, .bool v.lo.den.g, .slice v.lo.den.a v.lo.den.n v.lo.den.c, .bool v.hi.num.g, .slice v.hi.num.a v.hi.num.n v.hi.num.c, .bool v.hi.den.g, .slice v.hi.den.a v.hi.den.n v.hi.den.c] 41)).alloc (.cells #[.bool u.lo.num.g, .slice u.lo.num.a u.lo.num.n u.lo.num.c, .bool u.lo.den.g, .slice u.lo.den.a u.lo.den.n u.lo.den.c, .bool u.hi.num.g, .slice u.hi.num.a u.hi.num.n u.hi.num.c, .bool u.hi.den.g, .slice u.hi.den.a u.hi.den.n u.hi.den.c] 41)).alloc (.cells #[.bool false, .slice none 0 0, .bool false, .slice none 0 0, .bool false, .slice none 0 0, .bool false, .slice none 0 0] 41)) from ((((Below.refl _ _).alloc (by simp) _).alloc (by simp) _).alloc (by simp <;> omega) _))
      go_enter Try.func100, Try.ntmps100
      go_wp2_with fail
      refine (unhide G1 _ ((unhide H1).later (unhide B0))).mono ?_
      rintro e w1 ⟨rfl, hb⟩
      have s1 : w.heap.size + 1 + 1 < w1.heap.size := by have := hb.size; simp at this; omega
      have k0_0 : w1.cell? ⟨w.heap.size, 0, none⟩ = some (.bool v.lo.num.g) := cell_later hb (by simp [go_sem])
      have k0_1 : w1.cell? ⟨w.heap.size, 1, none⟩ = some (.slice v.lo.num.a v.lo.num.n v.lo.num.c) := cell_later hb (by simp [go_sem])
      have k0_2 : w1.cell? ⟨w.heap.size, 2, none⟩ = some (.bool v.lo.den.g) := cell_later hb (by simp [go_sem])
      have k0_3 : w1.cell? ⟨w.heap.size, 3, none⟩ = some (.slice v.lo.den.a v.lo.den.n v.lo.den.c) := cell_later hb (by simp [go_sem])
      have k0_4 : w1.cell? ⟨w.heap.size, 4, none⟩ = some (.bool v.hi.num.g) := cell_later hb (by simp [go_sem])
      have k0_5 : w1.cell? ⟨w.heap.size, 5, none⟩ = some (.slice v.hi.num.a v.hi.num.n v.hi.num.c) := cell_later hb (by simp [go_sem])
      have k0_6 : w1.cell? ⟨w.heap.size, 6, none⟩ = some (.bool v.hi.den.g) := cell_later hb (by simp [go_sem])
      have k0_7 : w1.cell? ⟨w.heap.size, 7, none⟩ = some (.slice v.hi.den.a v.hi.den.n v.hi.den.c) := cell_later hb (by simp [go_sem])
      have k1_0 : w1.cell? ⟨w.heap.size + 1, 0, none⟩ = some (.bool u.lo.num.g) := cell_later hb (by simp [go_sem])
      have k1_1 : w1.cell? ⟨w.heap.size + 1, 1, none⟩ = some (.slice u.lo.num.a u.lo.num.n u.lo.num.c) := cell_later hb (by simp [go_sem])
      have k1_2 : w1.cell? ⟨w.heap.size + 1, 2, none⟩ = some (.bool u.lo.den.g) := cell_later hb (by simp [go_sem])
      have k1_3 : w1.cell? ⟨w.heap.size + 1, 3, none⟩ = some (.slice u.lo.den.a u.lo.den.n u.lo.den.c) := cell_later hb (by simp [go_sem])
      have k1_4 : w1.cell? ⟨w.heap.size + 1, 4, none⟩ = some (.bool u.hi.num.g) := cell_later hb (by simp [go_sem])
      have k1_5 : w1.cell? ⟨w.heap.size + 1, 5, none⟩ = some (.slice u.hi.num.a u.hi.num.n u.hi.num.c) := cell_later hb (by simp [go_sem])
      have k1_6 : w1.cell? ⟨w.heap.size + 1, 6, none⟩ = some (.bool u.hi.den.g) := cell_later hb (by simp [go_sem])
      have k1_7 : w1.cell? ⟨w.heap.size + 1, 7, none⟩ = some (.slice u.hi.den.a u.hi.den.n u.hi.den.c) := cell_later hb (by simp [go_sem])
      have k2_0 : w1.cell? ⟨w.heap.size + 1 + 1, 0, none⟩ = some (.bool false) := cell_later hb (by simp [go_sem])
      have k2_1 : w1.cell? ⟨w.heap.size + 1 + 1, 1, none⟩ = some (.slice none 0 0) := cell_later hb (by simp [go_sem])
      have k2_2 : w1.cell? ⟨w.heap.size + 1 + 1, 2, none⟩ = some (.bool false) := cell_later hb (by simp [go_sem])
      have k2_3 : w1.cell? ⟨w.heap.size + 1 + 1, 3, none⟩ = some (.slice none 0 0) := cell_later hb (by simp [go_sem])
      have k2_4 : w1.cell? ⟨w.heap.size + 1 + 1, 4, none⟩ = some (.bool false) := cell_later hb (by simp [go_sem])
      have k2_5 : w1.cell? ⟨w.heap.size + 1 + 1, 5, none⟩ = some (.slice none 0 0) := cell_later hb (by simp [go_sem])
      have k2_6 : w1.cell? ⟨w.heap.size + 1 + 1, 6, none⟩ = some (.bool false) := cell_later hb (by simp [go_sem])
      have k2_7 : w1.cell? ⟨w.heap.size + 1 + 1, 7, none⟩ = some (.slice none 0 0) := cell_later hb (by simp [go_sem])
      have z2 : ∀ o, w1.frozen? ⟨w.heap.size + 1 + 1, o, none⟩ = false := fun o => frozen_later hb (by simp) (by simp [go_sem])
      have HB := hide (below_on (unhide B0) hb)
      clear hb
      go_wp2_with fail
      refine (unhide G2 _ ((unhide H2).later (unhide HB))).mono ?_
      rintro e w2 ⟨rfl, hb⟩
      have s2 := hb.size
      replace z2 := fun o => frozen_later hb (World.block_lt_of_cell? _ _ k2_0) (z2 o)
      replace k0_0 := cell_later hb k0_0
      replace k0_1 := cell_later hb k0_1
      replace k0_2 := cell_later hb k0_2
      replace k0_3 := cell_later hb k0_3
      replace k0_4 := cell_later hb k0_4
      replace k0_5 := cell_later hb k0_5
      replace k0_6 := cell_later hb k0_6
      replace k0_7 := cell_later hb k0_7
      replace k1_0 := cell_later hb k1_0
      replace k1_1 := cell_later hb k1_1
      replace k1_2 := cell_later hb k1_2
      replace k1_3 := cell_later hb k1_3
      replace k1_4 := cell_later hb k1_4
      replace k1_5 := cell_later hb k1_5
      replace k1_6 := cell_later hb k1_6
      replace k1_7 := cell_later hb k1_7
      replace k2_0 := cell_later hb k2_0
      replace k2_1 := cell_later hb k2_1
      replace k2_2 := cell_later hb k2_2
      replace k2_3 := cell_later hb k2_3
      replace k2_4 := cell_later hb k2_4
      replace k2_5 := cell_later hb k2_5
      replace k2_6 := cell_later hb k2_6
      replace k2_7 := cell_later hb k2_7
      replace HB := hide (below_on (unhide HB) hb)
      clear hb
      go_wp2_with fail
      refine (mulSpans_v v u d e _ ((unhide J1).later (unhide HB)) ((unhide J2).later (unhide HB))).mono ?_
      rintro e w3 ⟨r, xs, us, ys, vs, rfl, hb, or, ar, n1, n2, n3, n4⟩
      have s3 := hb.size
      have M1 : r.lo.den.n ≤ maxLen := Nat.le_trans ar.tail.head.ar.cap ar.tail.head.ar.top
      have M2 : r.hi.den.n ≤ maxLen := Nat.le_trans ar.tail.tail.tail.head.ar.cap ar.tail.tail.tail.head.ar.top
      have NN := hide (And.intro n1 (And.intro n2 (And.intro n3 n4)))
      replace z2 := fun o => frozen_later hb (World.block_lt_of_cell? _ _ k2_0) (z2 o)
      replace k2_0 := cell_later hb k2_0
      replace k2_1 := cell_later hb k2_1
      replace k2_2 := cell_later hb k2_2
      replace k2_3 := cell_later hb k2_3
      replace k2_4 := cell_later hb k2_4
      replace k2_5 := cell_later hb k2_5
      replace k2_6 := cell_later hb k2_6
      replace k2_7 := cell_later hb k2_7
      clear k0_0 k0_1 k0_2 k0_3 k0_4 k0_5 k0_6 k0_7 k1_0 k1_1 k1_2 k1_3 k1_4 k1_5 k1_6 k1_7
      have OR := hide (or)
      replace HB := hide (below_on (unhide HB) hb)
      clear hb
      clear or ar n1 n2 n3 n4
      go_wp2_with fail
      refine (whereS r _ _ _ _ xs us ys vs w2.heap.size w3.heap.size _ (unhide OR) (Nat.le_refl _) M1 M2 (unhide NN).1 (unhide NN).2.1 (unhide NN).2.2.1 (unhide NN).2.2.2 (unhide NZ).1 (unhide NZ).2).mono ?_
      rintro e w4 ⟨r2, dr, ok, rfl, hb, ov, hu⟩
      have s4 := hb.size
      have UU := hide hu
      replace z2 := fun o => frozen_later hb (World.block_lt_of_cell? _ _ k2_0) (z2 o)
      replace k2_0 := cell_later hb k2_0
      replace k2_1 := cell_later hb k2_1
      replace k2_2 := cell_later hb k2_2
      replace k2_3 := cell_later hb k2_3
      replace k2_4 := cell_later hb k2_4
      replace k2_5 := cell_later hb k2_5
      replace k2_6 := cell_later hb k2_6
      replace k2_7 := cell_later hb k2_7
      replace OR := hide ((unhide OR).later hb)
      have OV := hide (ov)
      replace HB := hide (below_on (unhide HB) hb)
      clear hb
      clear ov hu
      go_wp2
      refine bodyPost_ret (v := .tuple #[.agg #[.bool r2.lo.num.g, .slice r2.lo.num.a r2.lo.num.n r2.lo.num.c, .bool r2.lo.den.g, .slice r2.lo.den.a r2.lo.den.n r2.lo.den.c, .bool r2.hi.num.g, .slice r2.hi.num.a r2.hi.num.n r2.hi.num.c, .bool r2.hi.den.g, .slice r2.hi.den.a r2.hi.den.n r2.hi.den.c], .bool ok]) (by simp [results, Try.results100, go_sem, k2_0, k2_1, k2_2, k2_3, k2_4, k2_5, k2_6, k2_7]) rfl ?_
      exact retS_fin (v := r2) (d := dr) (R := w.heap.size + 1 + 1) (by omega) (unhide HB) (metS_but (w5 := w4) (v := r2) (G := w.heap.size + 1 + 1)) ((unhide OV).wide (by omega) (by omega)) (unhide UU)

set_option maxHeartbeats 4000000 in
theorem MulSI (v u : SV) (d e : SD) (w : World) (h : AllAr w [(v.lo.num, d.lo.num), (v.lo.den, d.lo.den), (v.hi.num, d.hi.num), (v.hi.den, d.hi.den)]) (h' : AllAr w [(u.lo.num, e.lo.num), (u.lo.den, e.lo.den), (u.hi.num, e.hi.num), (u.hi.den, e.hi.den)]) : Calls Try.prog 44 #[.agg #[.bool v.lo.num.g, .slice v.lo.num.a v.lo.num.n v.lo.num.c, .bool v.lo.den.g, .slice v.lo.den.a v.lo.den.n v.lo.den.c, .bool v.hi.num.g, .slice v.hi.num.a v.hi.num.n v.hi.num.c, .bool v.hi.den.g, .slice v.hi.den.a v.hi.den.n v.hi.den.c], .agg #[.bool u.lo.num.g, .slice u.lo.num.a u.lo.num.n u.lo.num.c, .bool u.lo.den.g, .slice u.lo.den.a u.lo.den.n u.lo.den.c, .bool u.hi.num.g, .slice u.hi.num.a u.hi.num.n u.hi.num.c, .bool u.hi.den.g, .slice u.hi.den.a u.hi.den.n u.hi.den.c]] w (RetS w (AnsS (gS d && gS e) (mLo d e).1 (mLo d e).2 (mHi d e).1 (mHi d e).2)) := by
  have H1 := hide h
  have H2 := hide h'
  clear h h'
  have B0 := hide (show Below w.heap.size w (((w.alloc (.cells #[.bool v.lo.num.g, .slice v.lo.num.a v.lo.num.n v.lo.num.c, .bool v.lo.den.g, .slice v.lo.den.a v.lo.den.n v.lo.den.c, .bool v.hi.num.g, .slice v.hi.num.a v.hi.num.n v.hi.num.c, .bool v.hi.den.g, .slice v.hi.den.a v.hi.den.n v.hi.den.c] 41)).alloc (.cells #[.bool u.lo.num.g, .slice u.lo.num.a u.lo.num.n u.lo.num.c, .bool u.lo.den.g, .slice u.lo.den.a u.lo.den.n u.lo.den.c, .bool u.hi.num.g, .slice u.hi.num.a u.hi.num.n u.hi.num.c, .bool u.hi.den.g, .slice u.hi.den.a u.hi.den.n u.hi.den.c] 41)).alloc (.cells #[.bool false, .slice none 0 0, .bool false, .slice none 0 0, .bool false, .slice none 0 0, .bool false, .slice none 0 0] 41)) from ((((Below.refl _ _).alloc (by simp) _).alloc (by simp) _).alloc (by simp <;> omega) _))
  go_enter Try.func44, Try.ntmps44
  go_wp2_with fail
  refine (ofMulS v u d e _ ((unhide H1).later (unhide B0)) ((unhide H2).later (unhide B0))).mono ?_
  rintro e w2 ⟨r2, dr, ok, rfl, hb, ov, hu⟩
  have s2 : w.heap.size + 1 + 1 < w2.heap.size := by have := hb.size; simp at this; omega
  have UU := hide hu
  replace ov := ov.wide (lo' := w.heap.size + 1 + 1 + 1) (by simp) (Nat.le_refl _)
  have k2_0 : w2.cell? ⟨w.heap.size + 1 + 1, 0, none⟩ = some (.bool false) := cell_later hb (by simp [go_sem])
  have k2_1 : w2.cell? ⟨w.heap.size + 1 + 1, 1, none⟩ = some (.slice none 0 0) := cell_later hb (by simp [go_sem])
  have k2_2 : w2.cell? ⟨w.heap.size + 1 + 1, 2, none⟩ = some (.bool false) := cell_later hb (by simp [go_sem])
  have k2_3 : w2.cell? ⟨w.heap.size + 1 + 1, 3, none⟩ = some (.slice none 0 0) := cell_later hb (by simp [go_sem])
  have k2_4 : w2.cell? ⟨w.heap.size + 1 + 1, 4, none⟩ = some (.bool false) := cell_later hb (by simp [go_sem])
  have k2_5 : w2.cell? ⟨w.heap.size + 1 + 1, 5, none⟩ = some (.slice none 0 0) := cell_later hb (by simp [go_sem])
  have k2_6 : w2.cell? ⟨w.heap.size + 1 + 1, 6, none⟩ = some (.bool false) := cell_later hb (by simp [go_sem])
  have k2_7 : w2.cell? ⟨w.heap.size + 1 + 1, 7, none⟩ = some (.slice none 0 0) := cell_later hb (by simp [go_sem])
  have z2 : ∀ o, w2.frozen? ⟨w.heap.size + 1 + 1, o, none⟩ = false := fun o => frozen_later hb (by simp) (by simp [go_sem])
  have OV := hide (ov)
  have HB := hide (below_on (unhide B0) hb)
  clear hb
  clear ov hu
  go_wp2
  refine bodyPost_ret (v := .tuple #[.agg #[.bool r2.lo.num.g, .slice r2.lo.num.a r2.lo.num.n r2.lo.num.c, .bool r2.lo.den.g, .slice r2.lo.den.a r2.lo.den.n r2.lo.den.c, .bool r2.hi.num.g, .slice r2.hi.num.a r2.hi.num.n r2.hi.num.c, .bool r2.hi.den.g, .slice r2.hi.den.a r2.hi.den.n r2.hi.den.c], .bool ok]) (by simp [results, Try.results44, go_sem, k2_0, k2_1, k2_2, k2_3, k2_4, k2_5, k2_6, k2_7]) rfl ?_
  exact retS_fin (v := r2) (d := dr) (R := w.heap.size + 1 + 1) (by omega) (unhide HB) (metS_but (w5 := w2) (v := r2) (G := w.heap.size + 1 + 1)) ((unhide OV).wide (by omega) (by omega)) (unhide UU)

set_option maxHeartbeats 8000000 in
theorem MulSS (v u : SV) (d e : SD) (w : World) (h : AllAr w [(v.lo.num, d.lo.num), (v.lo.den, d.lo.den), (v.hi.num, d.hi.num), (v.hi.den, d.hi.den)]) (h' : AllAr w [(u.lo.num, e.lo.num), (u.lo.den, e.lo.den), (u.hi.num, e.hi.num), (u.hi.den, e.hi.den)]) : Calls Try.prog 43 #[.agg #[.bool v.lo.num.g, .slice v.lo.num.a v.lo.num.n v.lo.num.c, .bool v.lo.den.g, .slice v.lo.den.a v.lo.den.n v.lo.den.c, .bool v.hi.num.g, .slice v.hi.num.a v.hi.num.n v.hi.num.c, .bool v.hi.den.g, .slice v.hi.den.a v.hi.den.n v.hi.den.c], .agg #[.bool u.lo.num.g, .slice u.lo.num.a u.lo.num.n u.lo.num.c, .bool u.lo.den.g, .slice u.lo.den.a u.lo.den.n u.lo.den.c, .bool u.hi.num.g, .slice u.hi.num.a u.hi.num.n u.hi.num.c, .bool u.hi.den.g, .slice u.hi.den.a u.hi.den.n u.hi.den.c]] w (RetS w (AnsS (gS d && gS e) (mLo d e).1 (mLo d e).2 (mHi d e).1 (mHi d e).2)) := by
  have H1 := hide h
  have H2 := hide h'
  clear h h'
  cases hP : (gS d && gS e)
  · have GB := hide (fun w1 (k : AllAr w1 [(v.lo.num, d.lo.num), (v.lo.den, d.lo.den), (v.hi.num, d.hi.num), (v.hi.den, d.hi.den)]) (k' : AllAr w1 [(u.lo.num, e.lo.num), (u.lo.den, e.lo.den), (u.hi.num, e.hi.num), (u.hi.den, e.hi.den)]) => bothSS v u d e w1 k k')
    rw [hP] at GB
    clear hP
    have B0 := hide (show Below w.heap.size w (((w.alloc (.cells #[.bool v.lo.num.g, .slice v.lo.num.a v.lo.num.n v.lo.num.c, .bool v.lo.den.g, .slice v.lo.den.a v.lo.den.n v.lo.den.c, .bool v.hi.num.g, .slice v.hi.num.a v.hi.num.n v.hi.num.c, .bool v.hi.den.g, .slice v.hi.den.a v.hi.den.n v.hi.den.c] 41)).alloc (.cells #[.bool u.lo.num.g, .slice u.lo.num.a u.lo.num.n u.lo.num.c, .bool u.lo.den.g, .slice u.lo.den.a u.lo.den.n u.lo.den.c, .bool u.hi.num.g, .slice u.hi.num.a u.hi.num.n u.hi.num.c, .bool u.hi.den.g, .slice u.hi.den.a u.hi.den.n u.hi.den.c] 41)).alloc (.cells #[.bool false, .slice none 0 0, .bool false, .slice none 0 0, .bool false, .slice none 0 0, .bool false, .slice none 0 0] 41)) from ((((Below.refl _ _).alloc (by simp) _).alloc (by simp) _).alloc (by simp <;> omega) _))
    go_enter Try.func43, Try.ntmps43
    go_wp2_with fail
    refine (unhide GB _ ((unhide H1).later (unhide B0)) ((unhide H2).later (unhide B0))).mono ?_
    rintro e w1 ⟨rfl, hb⟩
    have s1 : w.heap.size + 1 + 1 < w1.heap.size := by have := hb.size; simp at this; omega
    have k2_0 : w1.cell? ⟨w.heap.size + 1 + 1, 0, none⟩ = some (.bool false) := cell_later hb (by simp [go_sem])
    have k2_1 : w1.cell? ⟨w.heap.size + 1 + 1, 1, none⟩ = some (.slice none 0 0) := cell_later hb (by simp [go_sem])
    have k2_2 : w1.cell? ⟨w.heap.size + 1 + 1, 2, none⟩ = some (.bool false) := cell_later hb (by simp [go_sem])
    have k2_3 : w1.cell? ⟨w.heap.size + 1 + 1, 3, none⟩ = some (.slice none 0 0) := cell_later hb (by simp [go_sem])
    have k2_4 : w1.cell? ⟨w.heap.size + 1 + 1, 4, none⟩ = some (.bool false) := cell_later hb (by simp [go_sem])
    have k2_5 : w1.cell? ⟨w.heap.size + 1 + 1, 5, none⟩ = some (.slice none 0 0) := cell_later hb (by simp [go_sem])
    have k2_6 : w1.cell? ⟨w.heap.size + 1 + 1, 6, none⟩ = some (.bool false) := cell_later hb (by simp [go_sem])
    have k2_7 : w1.cell? ⟨w.heap.size + 1 + 1, 7, none⟩ = some (.slice none 0 0) := cell_later hb (by simp [go_sem])
    have z2 : ∀ o, w1.frozen? ⟨w.heap.size + 1 + 1, o, none⟩ = false := fun o => frozen_later hb (by simp) (by simp [go_sem])
    have HB := hide (below_on (unhide B0) hb)
    clear hb
    go_wp2
    refine bodyPost_ret (v := .tuple #[.agg #[.bool false, .slice none 0 0, .bool false, .slice none 0 0, .bool false, .slice none 0 0, .bool false, .slice none 0 0], .bool false]) (by simp [results, Try.results43, go_sem, k2_0, k2_1, k2_2, k2_3, k2_4, k2_5, k2_6, k2_7]) rfl ?_
    exact retS_fin (v := (⟨⟨⟨false, none, 0, 0⟩, ⟨false, none, 0, 0⟩⟩, ⟨⟨false, none, 0, 0⟩, ⟨false, none, 0, 0⟩⟩⟩ : SV)) (d := (⟨⟨⟨false, []⟩, ⟨false, []⟩⟩, ⟨⟨false, []⟩, ⟨false, []⟩⟩⟩ : SD)) (R := w.heap.size + 1 + 1) (by omega) (unhide HB) (metS_but (w5 := w1) (v := (⟨⟨⟨false, none, 0, 0⟩, ⟨false, none, 0, 0⟩⟩, ⟨⟨false, none, 0, 0⟩, ⟨false, none, 0, 0⟩⟩⟩ : SV)) (G := w.heap.size + 1 + 1)) (zeroS _ _ _) (ansS_none _ _ _ _)
  · have GB := hide (fun w1 (k : AllAr w1 [(v.lo.num, d.lo.num), (v.lo.den, d.lo.den), (v.hi.num, d.hi.num), (v.hi.den, d.hi.den)]) (k' : AllAr w1 [(u.lo.num, e.lo.num), (u.lo.den, e.lo.den), (u.hi.num, e.hi.num), (u.hi.den, e.hi.den)]) => bothSS v u d e w1 k k')
    rw [hP] at GB
    have hg1 : gS d = true := by revert hP; cases gS d <;> simp
    have hg2 : gS e = true := by revert hP; cases gS e <;> simp
    have j1 := isGoodS_of (unhide H1) hg1
    have j2 := isGoodS_of (unhide H2) hg2
    have NZ := hide (mPos j1 j2)
    have J1 := hide j1
    have J2 := hide j2
    clear hP hg1 hg2 j1 j2
    have B0 := hide (show Below w.heap.size w (((w.alloc (.cells #[.bool v.lo.num.g, .slice v.lo.num.a v.lo.num.n v.lo.num.c, .bool v.lo.den.g, .slice v.lo.den.a v.lo.den.n v.lo.den.c, .bool v.hi.num.g, .slice v.hi.num.a v.hi.num.n v.hi.num.c, .bool v.hi.den.g, .slice v.hi.den.a v.hi.den.n v.hi.den.c] 41)).alloc (.cells #[.bool u.lo.num.g, .slice u.lo.num.a u.lo.num.n u.lo.num.c, .bool u.lo.den.g, .slice u.lo.den.a u.lo.den.n u.lo.den.c, .bool u.hi.num.g, .slice u.hi.num.a u.hi.num.n u.hi.num.c, .bool u.hi.den.g, .slice u.hi.den.a u.hi.den.n u.hi.den.c] 41)).alloc (.cells #[.bool false, .slice none 0 0, .bool false, .slice none 0 0, .bool false, .slice none 0 0, .bool false, .slice none 0 0] 41)) from ((((Below.refl _ _).alloc (by simp) _).alloc (by simp) _).alloc (by simp <;> omega) _))
    go_enter Try.func43, Try.ntmps43
    go_wp2_with fail
    refine (unhide GB _ ((unhide H1).later (unhide B0)) ((unhide H2).later (unhide B0))).mono ?_
    rintro e w1 ⟨rfl, hb⟩
    have s1 : w.heap.size + 1 + 1 < w1.heap.size := by have := hb.size; simp at this; omega
    have k0_0 : w1.cell? ⟨w.heap.size, 0, none⟩ = some (.bool v.lo.num.g) := cell_later hb (by simp [go_sem])
    have k0_1 : w1.cell? ⟨w.heap.size, 1, none⟩ = some (.slice v.lo.num.a v.lo.num.n v.lo.num.c) := cell_later hb (by simp [go_sem])
    have k0_2 : w1.cell? ⟨w.heap.size, 2, none⟩ = some (.bool v.lo.den.g) := cell_later hb (by simp [go_sem])
    have k0_3 : w1.cell? ⟨w.heap.size, 3, none⟩ = some (.slice v.lo.den.a v.lo.den.n v.lo.den.c) := cell_later hb (by simp [go_sem])
    have k0_4 : w1.cell? ⟨w.heap.size, 4, none⟩ = some (.bool v.hi.num.g) := cell_later hb (by simp [go_sem])
    have k0_5 : w1.cell? ⟨w.heap.size, 5, none⟩ = some (.slice v.hi.num.a v.hi.num.n v.hi.num.c) := cell_later hb (by simp [go_sem])
    have k0_6 : w1.cell? ⟨w.heap.size, 6, none⟩ = some (.bool v.hi.den.g) := cell_later hb (by simp [go_sem])
    have k0_7 : w1.cell? ⟨w.heap.size, 7, none⟩ = some (.slice v.hi.den.a v.hi.den.n v.hi.den.c) := cell_later hb (by simp [go_sem])
    have k1_0 : w1.cell? ⟨w.heap.size + 1, 0, none⟩ = some (.bool u.lo.num.g) := cell_later hb (by simp [go_sem])
    have k1_1 : w1.cell? ⟨w.heap.size + 1, 1, none⟩ = some (.slice u.lo.num.a u.lo.num.n u.lo.num.c) := cell_later hb (by simp [go_sem])
    have k1_2 : w1.cell? ⟨w.heap.size + 1, 2, none⟩ = some (.bool u.lo.den.g) := cell_later hb (by simp [go_sem])
    have k1_3 : w1.cell? ⟨w.heap.size + 1, 3, none⟩ = some (.slice u.lo.den.a u.lo.den.n u.lo.den.c) := cell_later hb (by simp [go_sem])
    have k1_4 : w1.cell? ⟨w.heap.size + 1, 4, none⟩ = some (.bool u.hi.num.g) := cell_later hb (by simp [go_sem])
    have k1_5 : w1.cell? ⟨w.heap.size + 1, 5, none⟩ = some (.slice u.hi.num.a u.hi.num.n u.hi.num.c) := cell_later hb (by simp [go_sem])
    have k1_6 : w1.cell? ⟨w.heap.size + 1, 6, none⟩ = some (.bool u.hi.den.g) := cell_later hb (by simp [go_sem])
    have k1_7 : w1.cell? ⟨w.heap.size + 1, 7, none⟩ = some (.slice u.hi.den.a u.hi.den.n u.hi.den.c) := cell_later hb (by simp [go_sem])
    have k2_0 : w1.cell? ⟨w.heap.size + 1 + 1, 0, none⟩ = some (.bool false) := cell_later hb (by simp [go_sem])
    have k2_1 : w1.cell? ⟨w.heap.size + 1 + 1, 1, none⟩ = some (.slice none 0 0) := cell_later hb (by simp [go_sem])
    have k2_2 : w1.cell? ⟨w.heap.size + 1 + 1, 2, none⟩ = some (.bool false) := cell_later hb (by simp [go_sem])
    have k2_3 : w1.cell? ⟨w.heap.size + 1 + 1, 3, none⟩ = some (.slice none 0 0) := cell_later hb (by simp [go_sem])
    have k2_4 : w1.cell? ⟨w.heap.size + 1 + 1, 4, none⟩ = some (.bool false) := cell_later hb (by simp [go_sem])
    have k2_5 : w1.cell? ⟨w.heap.size + 1 + 1, 5, none⟩ = some (.slice none 0 0) := cell_later hb (by simp [go_sem])
    have k2_6 : w1.cell? ⟨w.heap.size + 1 + 1, 6, none⟩ = some (.bool false) := cell_later hb (by simp [go_sem])
    have k2_7 : w1.cell? ⟨w.heap.size + 1 + 1, 7, none⟩ = some (.slice none 0 0) := cell_later hb (by simp [go_sem])
    have z2 : ∀ o, w1.frozen? ⟨w.heap.size + 1 + 1, o, none⟩ = false := fun o => frozen_later hb (by simp) (by simp [go_sem])
    have HB := hide (below_on (unhide B0) hb)
    clear hb
    have S1 := hide ((unhide J1).later (unhide HB))
    have S2 := hide ((unhide J2).later (unhide HB))
    go_upto_region 3 with fail
    have ne0_2 : w.heap.size ≠ w.heap.size + 1 + 1 := by omega
    have ne1_2 : w.heap.size + 1 ≠ w.heap.size + 1 + 1 := by omega
    go_region_held3 (fun w' => w'.cell? ⟨w.heap.size, 0, none⟩ = some (.bool v.lo.num.g) ∧ w'.cell? ⟨w.heap.size, 1, none⟩ = some (.slice v.lo.num.a v.lo.num.n v.lo.num.c) ∧ w'.cell? ⟨w.heap.size, 2, none⟩ = some (.bool v.lo.den.g) ∧ w'.cell? ⟨w.heap.size, 3, none⟩ = some (.slice v.lo.den.a v.lo.den.n v.lo.den.c) ∧ w'.cell? ⟨w.heap.size, 4, none⟩ = some (.bool v.hi.num.g) ∧ w'.cell? ⟨w.heap.size, 5, none⟩ = some (.slice v.hi.num.a v.hi.num.n v.hi.num.c) ∧ w'.cell? ⟨w.heap.size, 6, none⟩ = some (.bool v.hi.den.g) ∧ w'.cell? ⟨w.heap.size, 7, none⟩ = some (.slice v.hi.den.a v.hi.den.n v.hi.den.c) ∧ w'.cell? ⟨w.heap.size + 1, 0, none⟩ = some (.bool u.lo.num.g) ∧ w'.cell? ⟨w.heap.size + 1, 1, none⟩ = some (.slice u.lo.num.a u.lo.num.n u.lo.num.c) ∧ w'.cell? ⟨w.heap.size + 1, 2, none⟩ = some (.bool u.lo.den.g) ∧ w'.cell? ⟨w.heap.size + 1, 3, none⟩ = some (.slice u.lo.den.a u.lo.den.n u.lo.den.c) ∧ w'.cell? ⟨w.heap.size + 1, 4, none⟩ = some (.bool u.hi.num.g) ∧ w'.cell? ⟨w.heap.size + 1, 5, none⟩ = some (.slice u.hi.num.a u.hi.num.n u.hi.num.c) ∧ w'.cell? ⟨w.heap.size + 1, 6, none⟩ = some (.bool u.hi.den.g) ∧ w'.cell? ⟨w.heap.size + 1, 7, none⟩ = some (.slice u.hi.den.a u.hi.den.n u.hi.den.c)) (with_reducible (first | exact ⟨k0_0, k0_1, k0_2, k0_3, k0_4, k0_5, k0_6, k0_7, k1_0, k1_1, k1_2, k1_3, k1_4, k1_5, k1_6, k1_7⟩ | exact ⟨cd_other k0_0, cd_other k0_1, cd_other k0_2, cd_other k0_3, cd_other k0_4, cd_other k0_5, cd_other k0_6, cd_other k0_7, cd_other k1_0, cd_other k1_1, cd_other k1_2, cd_other k1_3, cd_other k1_4, cd_other k1_5, cd_other k1_6, cd_other k1_7⟩ | exact ⟨ca_other k0_0, ca_other k0_1, ca_other k0_2, ca_other k0_3, ca_other k0_4, ca_other k0_5, ca_other k0_6, ca_other k0_7, ca_other k1_0, ca_other k1_1, ca_other k1_2, ca_other k1_3, ca_other k1_4, ca_other k1_5, ca_other k1_6, ca_other k1_7⟩ | exact ⟨cs_other (cs_other (cs_other (cs_other (cs_other (cs_other (cs_other (cs_other (k0_0) ne0_2) ne0_2) ne0_2) ne0_2) ne0_2) ne0_2) ne0_2) ne0_2, cs_other (cs_other (cs_other (cs_other (cs_other (cs_other (cs_other (cs_other (k0_1) ne0_2) ne0_2) ne0_2) ne0_2) ne0_2) ne0_2) ne0_2) ne0_2, cs_other (cs_other (cs_other (cs_other (cs_other (cs_other (cs_other (cs_other (k0_2) ne0_2) ne0_2) ne0_2) ne0_2) ne0_2) ne0_2) ne0_2) ne0_2, cs_other (cs_other (cs_other (cs_other (cs_other (cs_other (cs_other (cs_other (k0_3) ne0_2) ne0_2) ne0_2) ne0_2) ne0_2) ne0_2) ne0_2) ne0_2, cs_other (cs_other (cs_other (cs_other (cs_other (cs_other (cs_other (cs_other (k0_4) ne0_2) ne0_2) ne0_2) ne0_2) ne0_2) ne0_2) ne0_2) ne0_2, cs_other (cs_other (cs_other (cs_other (cs_other (cs_other (cs_other (cs_other (k0_5) ne0_2) ne0_2) ne0_2) ne0_2) ne0_2) ne0_2) ne0_2) ne0_2, cs_other (cs_other (cs_other (cs_other (cs_other (cs_other (cs_other (cs_other (k0_6) ne0_2) ne0_2) ne0_2) ne0_2) ne0_2) ne0_2) ne0_2) ne0_2, cs_other (cs_other (cs_other (cs_other (cs_other (cs_other (cs_other (cs_other (k0_7) ne0_2) ne0_2) ne0_2) ne0_2) ne0_2) ne0_2) ne0_2) ne0_2, cs_other (cs_other (cs_other (cs_other (cs_other (cs_other (cs_other (cs_other (k1_0) ne1_2) ne1_2) ne1_2) ne1_2) ne1_2) ne1_2) ne1_2) ne1_2, cs_other (cs_other (cs_other (cs_other (cs_other (cs_other (cs_other (cs_other (k1_1) ne1_2) ne1_2) ne1_2) ne1_2) ne1_2) ne1_2) ne1_2) ne1_2, cs_other (cs_other (cs_other (cs_other (cs_other (cs_other (cs_other (cs_other (k1_2) ne1_2) ne1_2) ne1_2) ne1_2) ne1_2) ne1_2) ne1_2) ne1_2, cs_other (cs_other (cs_other (cs_other (cs_other (cs_other (cs_other (cs_other (k1_3) ne1_2) ne1_2) ne1_2) ne1_2) ne1_2) ne1_2) ne1_2) ne1_2, cs_other (cs_other (cs_other (cs_other (cs_other (cs_other (cs_other (cs_other (k1_4) ne1_2) ne1_2) ne1_2) ne1_2) ne1_2) ne1_2) ne1_2) ne1_2, cs_other (cs_other (cs_other (cs_other (cs_other (cs_other (cs_other (cs_other (k1_5) ne1_2) ne1_2) ne1_2) ne1_2) ne1_2) ne1_2) ne1_2) ne1_2, cs_other (cs_other (cs_other (cs_other (cs_other (cs_other (cs_other (cs_other (k1_6) ne1_2) ne1_2) ne1_2) ne1_2) ne1_2) ne1_2) ne1_2) ne1_2, cs_other (cs_other (cs_other (cs_other (cs_other (cs_other (cs_other (cs_other (k1_7) ne1_2) ne1_2) ne1_2) ne1_2) ne1_2) ne1_2) ne1_2) ne1_2⟩ | fail))
      (first
      | (go_at_call 99; refine (fitsSS r (mLo d e).1 (mLo d e).2 (mHi d e).1 (mHi d e).2 _ ?_ ?_ (unhide NZ).1 (unhide NZ).2).mono ?_; exact (unhide I1).later (Below.refl _ _); exact (unhide I2).later (Below.refl _ _); rintro e w4 ⟨r2, dr, ok, rfl, hb, ov, hu⟩; have hbx : Below w5b.heap.size w5b w4 := hb; have szw4 := hbx.size; replace z2 := fun o => frozen_later hbx (World.block_lt_of_cell? _ _ k2_0) (z2 o); replace k0_0 := cell_later hbx k0_0; replace k0_1 := cell_later hbx k0_1; replace k0_2 := cell_later hbx k0_2; replace k0_3 := cell_later hbx k0_3; replace k0_4 := cell_later hbx k0_4; replace k0_5 := cell_later hbx k0_5; replace k0_6 := cell_later hbx k0_6; replace k0_7 := cell_later hbx k0_7; replace k1_0 := cell_later hbx k1_0; replace k1_1 := cell_later hbx k1_1; replace k1_2 := cell_later hbx k1_2; replace k1_3 := cell_later hbx k1_3; replace k1_4 := cell_later hbx k1_4; replace k1_5 := cell_later hbx k1_5; replace k1_6 := cell_later hbx k1_6; replace k1_7 := cell_later hbx k1_7; replace k2_0 := cell_later hbx k2_0; replace k2_1 := cell_later hbx k2_1; replace k2_2 := cell_later hbx k2_2; replace k2_3 := cell_later hbx k2_3; replace k2_4 := cell_later hbx k2_4; replace k2_5 := cell_later hbx k2_5; replace k2_6 := cell_later hbx k2_6; replace k2_7 := cell_later hbx k2_7; replace S1 := hide ((unhide S1).later hbx); replace S2 := hide ((unhide S2).later hbx); replace Px1 := hide ((unhide Px1).later hbx); replace Px2 := hide ((unhide Px2).later hbx); replace Px3 := hide ((unhide Px3).later hbx); replace Px4 := hide ((unhide Px4).later hbx); replace I1 := hide ((unhide I1).later hbx); replace I2 := hide ((unhide I2).later hbx); have UU := hide hu; have OV := hide (ov); have HBr := hide (below_on (unhide HBr) hbx); clear hbx hb ov hu)
      | (have chk := Px4; clear chk; go_at_call 103; refine (l3Of_v ⟨x1, lowN (nQ d.lo * nQ e.lo) (dQ d.lo * dQ e.lo), lowD (nQ d.lo * nQ e.lo) (dQ d.lo * dQ e.lo)⟩ w4b.heap.size 0 4 4 [⟨x1, lowN (nQ d.lo * nQ e.lo) (dQ d.lo * dQ e.lo), lowD (nQ d.lo * nQ e.lo) (dQ d.lo * dQ e.lo)⟩, ⟨x2, lowN (nQ d.lo * nQ e.hi) (dQ d.lo * dQ e.hi), lowD (nQ d.lo * nQ e.hi) (dQ d.lo * dQ e.hi)⟩, ⟨x3, lowN (nQ d.hi * nQ e.lo) (dQ d.hi * dQ e.lo), lowD (nQ d.hi * nQ e.lo) (dQ d.hi * dQ e.lo)⟩, ⟨x4, lowN (nQ d.hi * nQ e.hi) (dQ d.hi * dQ e.hi), lowD (nQ d.hi * nQ e.hi) (dQ d.hi * dQ e.hi)⟩] _ ?_ ?_ rfl ?_ ?_ ?_).mono ?_; (exact ⟨(unhide Px1).later ((Below.refl _ _).alloc (Nat.le_refl _) _), (mBd (unhide J1).lo (unhide J2).lo).1, (mBd (unhide J1).lo (unhide J2).lo).2⟩); (exact rats_4 (r1 := ⟨x1, lowN (nQ d.lo * nQ e.lo) (dQ d.lo * dQ e.lo), lowD (nQ d.lo * nQ e.lo) (dQ d.lo * dQ e.lo)⟩) (r2 := ⟨x2, lowN (nQ d.lo * nQ e.hi) (dQ d.lo * dQ e.hi), lowD (nQ d.lo * nQ e.hi) (dQ d.lo * dQ e.hi)⟩) (r3 := ⟨x3, lowN (nQ d.hi * nQ e.lo) (dQ d.hi * dQ e.lo), lowD (nQ d.hi * nQ e.lo) (dQ d.hi * dQ e.lo)⟩) (r4 := ⟨x4, lowN (nQ d.hi * nQ e.hi) (dQ d.hi * dQ e.hi), lowD (nQ d.hi * nQ e.hi) (dQ d.hi * dQ e.hi)⟩) ⟨(unhide Px1), (mBd (unhide J1).lo (unhide J2).lo).1, (mBd (unhide J1).lo (unhide J2).lo).2⟩ ⟨(unhide Px2), (mBd (unhide J1).lo (unhide J2).hi).1, (mBd (unhide J1).lo (unhide J2).hi).2⟩ ⟨(unhide Px3), (mBd (unhide J1).hi (unhide J2).lo).1, (mBd (unhide J1).hi (unhide J2).lo).2⟩ ⟨(unhide Px4), (mBd (unhide J1).hi (unhide J2).hi).1, (mBd (unhide J1).hi (unhide J2).hi).2⟩); (omega); (omega); (simp [go_sem]); rintro e w5b ⟨r, rfl, hb0, i1, i2⟩; have hb := ba hb0; have szl := hb0.size; (try simp at szl); have hbx : Below w4b.heap.size w4b w5b := hb; have szw5b := hbx.size; replace z2 := fun o => frozen_later hbx (World.block_lt_of_cell? _ _ k2_0) (z2 o); replace k0_0 := cell_later hbx k0_0; replace k0_1 := cell_later hbx k0_1; replace k0_2 := cell_later hbx k0_2; replace k0_3 := cell_later hbx k0_3; replace k0_4 := cell_later hbx k0_4; replace k0_5 := cell_later hbx k0_5; replace k0_6 := cell_later hbx k0_6; replace k0_7 := cell_later hbx k0_7; replace k1_0 := cell_later hbx k1_0; replace k1_1 := cell_later hbx k1_1; replace k1_2 := cell_later hbx k1_2; replace k1_3 := cell_later hbx k1_3; replace k1_4 := cell_later hbx k1_4; replace k1_5 := cell_later hbx k1_5; replace k1_6 := cell_later hbx k1_6; replace k1_7 := cell_later hbx k1_7; replace k2_0 := cell_later hbx k2_0; replace k2_1 := cell_later hbx k2_1; replace k2_2 := cell_later hbx k2_2; replace k2_3 := cell_later hbx k2_3; replace k2_4 := cell_later hbx k2_4; replace k2_5 := cell_later hbx k2_5; replace k2_6 := cell_later hbx k2_6; replace k2_7 := cell_later hbx k2_7; replace S1 := hide ((unhide S1).later hbx); replace S2 := hide ((unhide S2).later hbx); replace Px1 := hide ((unhide Px1).later hbx); replace Px2 := hide ((unhide Px2).later hbx); replace Px3 := hide ((unhide Px3).later hbx); replace Px4 := hide ((unhide Px4).later hbx); have f1 := fold_lo ([⟨x1, lowN (nQ d.lo * nQ e.lo) (dQ d.lo * dQ e.lo), lowD (nQ d.lo * nQ e.lo) (dQ d.lo * dQ e.lo)⟩, ⟨x2, lowN (nQ d.lo * nQ e.hi) (dQ d.lo * dQ e.hi), lowD (nQ d.lo * nQ e.hi) (dQ d.lo * dQ e.hi)⟩, ⟨x3, lowN (nQ d.hi * nQ e.lo) (dQ d.hi * dQ e.lo), lowD (nQ d.hi * nQ e.lo) (dQ d.hi * dQ e.lo)⟩, ⟨x4, lowN (nQ d.hi * nQ e.hi) (dQ d.hi * dQ e.hi), lowD (nQ d.hi * nQ e.hi) (dQ d.hi * dQ e.hi)⟩] : List RQ) (⟨x1, lowN (nQ d.lo * nQ e.lo) (dQ d.lo * dQ e.lo), lowD (nQ d.lo * nQ e.lo) (dQ d.lo * dQ e.lo)⟩ : RQ); have f2 := fold_hi ([⟨x1, lowN (nQ d.lo * nQ e.lo) (dQ d.lo * dQ e.lo), lowD (nQ d.lo * nQ e.lo) (dQ d.lo * dQ e.lo)⟩, ⟨x2, lowN (nQ d.lo * nQ e.hi) (dQ d.lo * dQ e.hi), lowD (nQ d.lo * nQ e.hi) (dQ d.lo * dQ e.hi)⟩, ⟨x3, lowN (nQ d.hi * nQ e.lo) (dQ d.hi * dQ e.lo), lowD (nQ d.hi * nQ e.lo) (dQ d.hi * dQ e.lo)⟩, ⟨x4, lowN (nQ d.hi * nQ e.hi) (dQ d.hi * dQ e.hi), lowD (nQ d.hi * nQ e.hi) (dQ d.hi * dQ e.hi)⟩] : List RQ) (⟨x1, lowN (nQ d.lo * nQ e.lo) (dQ d.lo * dQ e.lo), lowD (nQ d.lo * nQ e.lo) (dQ d.lo * dQ e.lo)⟩ : RQ); have g1 : (([⟨x1, lowN (nQ d.lo * nQ e.lo) (dQ d.lo * dQ e.lo), lowD (nQ d.lo * nQ e.lo) (dQ d.lo * dQ e.lo)⟩, ⟨x2, lowN (nQ d.lo * nQ e.hi) (dQ d.lo * dQ e.hi), lowD (nQ d.lo * nQ e.hi) (dQ d.lo * dQ e.hi)⟩, ⟨x3, lowN (nQ d.hi * nQ e.lo) (dQ d.hi * dQ e.lo), lowD (nQ d.hi * nQ e.lo) (dQ d.hi * dQ e.lo)⟩, ⟨x4, lowN (nQ d.hi * nQ e.hi) (dQ d.hi * dQ e.hi), lowD (nQ d.hi * nQ e.hi) (dQ d.hi * dQ e.hi)⟩] : List RQ).map RQ.p).foldl pLo ((⟨x1, lowN (nQ d.lo * nQ e.lo) (dQ d.lo * dQ e.lo), lowD (nQ d.lo * nQ e.lo) (dQ d.lo * dQ e.lo)⟩ : RQ).p) = mLo d e := (by show List.foldl pLo (pLo (mp d.lo e.lo) (mp d.lo e.lo)) [mp d.lo e.hi, mp d.hi e.lo, mp d.hi e.hi] = _; rw [pLo_self]; rfl); have g2 : (([⟨x1, lowN (nQ d.lo * nQ e.lo) (dQ d.lo * dQ e.lo), lowD (nQ d.lo * nQ e.lo) (dQ d.lo * dQ e.lo)⟩, ⟨x2, lowN (nQ d.lo * nQ e.hi) (dQ d.lo * dQ e.hi), lowD (nQ d.lo * nQ e.hi) (dQ d.lo * dQ e.hi)⟩, ⟨x3, lowN (nQ d.hi * nQ e.lo) (dQ d.hi * dQ e.lo), lowD (nQ d.hi * nQ e.lo) (dQ d.hi * dQ e.lo)⟩, ⟨x4, lowN (nQ d.hi * nQ e.hi) (dQ d.hi * dQ e.hi), lowD (nQ d.hi * nQ e.hi) (dQ d.hi * dQ e.hi)⟩] : List RQ).map RQ.p).foldl pHi ((⟨x1, lowN (nQ d.lo * nQ e.lo) (dQ d.lo * dQ e.lo), lowD (nQ d.lo * nQ e.lo) (dQ d.lo * dQ e.lo)⟩ : RQ).p) = mHi d e := (by show List.foldl pHi (pHi (mp d.lo e.lo) (mp d.lo e.lo)) [mp d.lo e.hi, mp d.hi e.lo, mp d.hi e.hi] = _; rw [pHi_self]; rfl); have e1 : (List.foldl stLo (⟨x1, lowN (nQ d.lo * nQ e.lo) (dQ d.lo * dQ e.lo), lowD (nQ d.lo * nQ e.lo) (dQ d.lo * dQ e.lo)⟩ : RQ) [⟨x1, lowN (nQ d.lo * nQ e.lo) (dQ d.lo * dQ e.lo), lowD (nQ d.lo * nQ e.lo) (dQ d.lo * dQ e.lo)⟩, ⟨x2, lowN (nQ d.lo * nQ e.hi) (dQ d.lo * dQ e.hi), lowD (nQ d.lo * nQ e.hi) (dQ d.lo * dQ e.hi)⟩, ⟨x3, lowN (nQ d.hi * nQ e.lo) (dQ d.hi * dQ e.lo), lowD (nQ d.hi * nQ e.lo) (dQ d.hi * dQ e.lo)⟩, ⟨x4, lowN (nQ d.hi * nQ e.hi) (dQ d.hi * dQ e.hi), lowD (nQ d.hi * nQ e.hi) (dQ d.hi * dQ e.hi)⟩]).N = (mLo d e).1 := congrArg Prod.fst (f1.trans g1); have e2 : (List.foldl stLo (⟨x1, lowN (nQ d.lo * nQ e.lo) (dQ d.lo * dQ e.lo), lowD (nQ d.lo * nQ e.lo) (dQ d.lo * dQ e.lo)⟩ : RQ) [⟨x1, lowN (nQ d.lo * nQ e.lo) (dQ d.lo * dQ e.lo), lowD (nQ d.lo * nQ e.lo) (dQ d.lo * dQ e.lo)⟩, ⟨x2, lowN (nQ d.lo * nQ e.hi) (dQ d.lo * dQ e.hi), lowD (nQ d.lo * nQ e.hi) (dQ d.lo * dQ e.hi)⟩, ⟨x3, lowN (nQ d.hi * nQ e.lo) (dQ d.hi * dQ e.lo), lowD (nQ d.hi * nQ e.lo) (dQ d.hi * dQ e.lo)⟩, ⟨x4, lowN (nQ d.hi * nQ e.hi) (dQ d.hi * dQ e.hi), lowD (nQ d.hi * nQ e.hi) (dQ d.hi * dQ e.hi)⟩]).D = (mLo d e).2 := congrArg Prod.snd (f1.trans g1); have e3 : (List.foldl stHi (⟨x1, lowN (nQ d.lo * nQ e.lo) (dQ d.lo * dQ e.lo), lowD (nQ d.lo * nQ e.lo) (dQ d.lo * dQ e.lo)⟩ : RQ) [⟨x1, lowN (nQ d.lo * nQ e.lo) (dQ d.lo * dQ e.lo), lowD (nQ d.lo * nQ e.lo) (dQ d.lo * dQ e.lo)⟩, ⟨x2, lowN (nQ d.lo * nQ e.hi) (dQ d.lo * dQ e.hi), lowD (nQ d.lo * nQ e.hi) (dQ d.lo * dQ e.hi)⟩, ⟨x3, lowN (nQ d.hi * nQ e.lo) (dQ d.hi * dQ e.lo), lowD (nQ d.hi * nQ e.lo) (dQ d.hi * dQ e.lo)⟩, ⟨x4, lowN (nQ d.hi * nQ e.hi) (dQ d.hi * dQ e.hi), lowD (nQ d.hi * nQ e.hi) (dQ d.hi * dQ e.hi)⟩]).N = (mHi d e).1 := congrArg Prod.fst (f2.trans g2); have e4 : (List.foldl stHi (⟨x1, lowN (nQ d.lo * nQ e.lo) (dQ d.lo * dQ e.lo), lowD (nQ d.lo * nQ e.lo) (dQ d.lo * dQ e.lo)⟩ : RQ) [⟨x1, lowN (nQ d.lo * nQ e.lo) (dQ d.lo * dQ e.lo), lowD (nQ d.lo * nQ e.lo) (dQ d.lo * dQ e.lo)⟩, ⟨x2, lowN (nQ d.lo * nQ e.hi) (dQ d.lo * dQ e.hi), lowD (nQ d.lo * nQ e.hi) (dQ d.lo * dQ e.hi)⟩, ⟨x3, lowN (nQ d.hi * nQ e.lo) (dQ d.hi * dQ e.lo), lowD (nQ d.hi * nQ e.lo) (dQ d.hi * dQ e.lo)⟩, ⟨x4, lowN (nQ d.hi * nQ e.hi) (dQ d.hi * dQ e.hi), lowD (nQ d.hi * nQ e.hi) (dQ d.hi * dQ e.hi)⟩]).D = (mHi d e).2 := congrArg Prod.snd (f2.trans g2); rw [e1, e2] at i1; rw [e3, e4] at i2; clear e1 e2 e3 e4 f1 f2 g1 g2; have I1 := hide (i1); have I2 := hide (i2); have HBr := hide (below_on (unhide HBr) hbx); clear hbx hb i1 i2 hb0)
      | (have chk := Px3; clear chk; go_at_call 87; refine (mulQS v.hi u.hi _ _ _ _ _ ?_ ?_ (mNz (unhide J1).hi (unhide J2).hi) ((unhide J1).hi.kn.mono (by omega)) ((unhide J1).hi.kd.mono (by omega)) ((unhide J2).hi.kn.mono (by omega)) ((unhide J2).hi.kd.mono (by omega))).mono ?_; exact (unhide S1).hi.is.later (Below.refl _ _); exact (unhide S2).hi.is.later (Below.refl _ _); rintro e w4b ⟨x4, rfl, hb, o4, a4⟩; have hbx : Below w3b.heap.size w3b w4b := hb; have szw4b := hbx.size; replace z2 := fun o => frozen_later hbx (World.block_lt_of_cell? _ _ k2_0) (z2 o); replace k0_0 := cell_later hbx k0_0; replace k0_1 := cell_later hbx k0_1; replace k0_2 := cell_later hbx k0_2; replace k0_3 := cell_later hbx k0_3; replace k0_4 := cell_later hbx k0_4; replace k0_5 := cell_later hbx k0_5; replace k0_6 := cell_later hbx k0_6; replace k0_7 := cell_later hbx k0_7; replace k1_0 := cell_later hbx k1_0; replace k1_1 := cell_later hbx k1_1; replace k1_2 := cell_later hbx k1_2; replace k1_3 := cell_later hbx k1_3; replace k1_4 := cell_later hbx k1_4; replace k1_5 := cell_later hbx k1_5; replace k1_6 := cell_later hbx k1_6; replace k1_7 := cell_later hbx k1_7; replace k2_0 := cell_later hbx k2_0; replace k2_1 := cell_later hbx k2_1; replace k2_2 := cell_later hbx k2_2; replace k2_3 := cell_later hbx k2_3; replace k2_4 := cell_later hbx k2_4; replace k2_5 := cell_later hbx k2_5; replace k2_6 := cell_later hbx k2_6; replace k2_7 := cell_later hbx k2_7; replace S1 := hide ((unhide S1).later hbx); replace S2 := hide ((unhide S2).later hbx); replace Px1 := hide ((unhide Px1).later hbx); replace Px2 := hide ((unhide Px2).later hbx); replace Px3 := hide ((unhide Px3).later hbx); have q4 : IsQ w4b x4 (lowN (nQ d.hi * nQ e.hi) (dQ d.hi * dQ e.hi)) (lowD (nQ d.hi * nQ e.hi) (dQ d.hi * dQ e.hi)) := ⟨o4.is, a4.is⟩; have Px4 := hide (q4); have HBr := hide (below_on (unhide HBr) hbx); clear hbx hb o4 a4 q4)
      | (have chk := Px2; clear chk; go_at_call 87; refine (mulQS v.hi u.lo _ _ _ _ _ ?_ ?_ (mNz (unhide J1).hi (unhide J2).lo) ((unhide J1).hi.kn.mono (by omega)) ((unhide J1).hi.kd.mono (by omega)) ((unhide J2).lo.kn.mono (by omega)) ((unhide J2).lo.kd.mono (by omega))).mono ?_; exact (unhide S1).hi.is.later (Below.refl _ _); exact (unhide S2).lo.is.later (Below.refl _ _); rintro e w3b ⟨x3, rfl, hb, o3, a3⟩; have hbx : Below w2b.heap.size w2b w3b := hb; have szw3b := hbx.size; replace z2 := fun o => frozen_later hbx (World.block_lt_of_cell? _ _ k2_0) (z2 o); replace k0_0 := cell_later hbx k0_0; replace k0_1 := cell_later hbx k0_1; replace k0_2 := cell_later hbx k0_2; replace k0_3 := cell_later hbx k0_3; replace k0_4 := cell_later hbx k0_4; replace k0_5 := cell_later hbx k0_5; replace k0_6 := cell_later hbx k0_6; replace k0_7 := cell_later hbx k0_7; replace k1_0 := cell_later hbx k1_0; replace k1_1 := cell_later hbx k1_1; replace k1_2 := cell_later hbx k1_2; replace k1_3 := cell_later hbx k1_3; replace k1_4 := cell_later hbx k1_4; replace k1_5 := cell_later hbx k1_5; replace k1_6 := cell_later hbx k1_6; replace k1_7 := cell_later hbx k1_7; replace k2_0 := cell_later hbx k2_0; replace k2_1 := cell_later hbx k2_1; replace k2_2 := cell_later hbx k2_2; replace k2_3 := cell_later hbx k2_3; replace k2_4 := cell_later hbx k2_4; replace k2_5 := cell_later hbx k2_5; replace k2_6 := cell_later hbx k2_6; replace k2_7 := cell_later hbx k2_7; replace S1 := hide ((unhide S1).later hbx); replace S2 := hide ((unhide S2).later hbx); replace Px1 := hide ((unhide Px1).later hbx); replace Px2 := hide ((unhide Px2).later hbx); have q3 : IsQ w3b x3 (lowN (nQ d.hi * nQ e.lo) (dQ d.hi * dQ e.lo)) (lowD (nQ d.hi * nQ e.lo) (dQ d.hi * dQ e.lo)) := ⟨o3.is, a3.is⟩; have Px3 := hide (q3); have HBr := hide (below_on (unhide HBr) hbx); clear hbx hb o3 a3 q3)
      | (have chk := Px1; clear chk; go_at_call 87; refine (mulQS v.lo u.hi _ _ _ _ _ ?_ ?_ (mNz (unhide J1).lo (unhide J2).hi) ((unhide J1).lo.kn.mono (by omega)) ((unhide J1).lo.kd.mono (by omega)) ((unhide J2).hi.kn.mono (by omega)) ((unhide J2).hi.kd.mono (by omega))).mono ?_; exact (unhide S1).lo.is.later (Below.refl _ _); exact (unhide S2).hi.is.later (Below.refl _ _); rintro e w2b ⟨x2, rfl, hb, o2, a2⟩; have hbx : Below w1b.heap.size w1b w2b := hb; have szw2b := hbx.size; replace z2 := fun o => frozen_later hbx (World.block_lt_of_cell? _ _ k2_0) (z2 o); replace k0_0 := cell_later hbx k0_0; replace k0_1 := cell_later hbx k0_1; replace k0_2 := cell_later hbx k0_2; replace k0_3 := cell_later hbx k0_3; replace k0_4 := cell_later hbx k0_4; replace k0_5 := cell_later hbx k0_5; replace k0_6 := cell_later hbx k0_6; replace k0_7 := cell_later hbx k0_7; replace k1_0 := cell_later hbx k1_0; replace k1_1 := cell_later hbx k1_1; replace k1_2 := cell_later hbx k1_2; replace k1_3 := cell_later hbx k1_3; replace k1_4 := cell_later hbx k1_4; replace k1_5 := cell_later hbx k1_5; replace k1_6 := cell_later hbx k1_6; replace k1_7 := cell_later hbx k1_7; replace k2_0 := cell_later hbx k2_0; replace k2_1 := cell_later hbx k2_1; replace k2_2 := cell_later hbx k2_2; replace k2_3 := cell_later hbx k2_3; replace k2_4 := cell_later hbx k2_4; replace k2_5 := cell_later hbx k2_5; replace k2_6 := cell_later hbx k2_6; replace k2_7 := cell_later hbx k2_7; replace S1 := hide ((unhide S1).later hbx); replace S2 := hide ((unhide S2).later hbx); replace Px1 := hide ((unhide Px1).later hbx); have q2 : IsQ w2b x2 (lowN (nQ d.lo * nQ e.hi) (dQ d.lo * dQ e.hi)) (lowD (nQ d.lo * nQ e.hi) (dQ d.lo * dQ e.hi)) := ⟨o2.is, a2.is⟩; have Px2 := hide (q2); have HBr := hide (below_on (unhide HBr) hbx); clear hbx hb o2 a2 q2)
      | (go_at_call 87; refine (mulQS v.lo u.lo _ _ _ _ _ ?_ ?_ (mNz (unhide J1).lo (unhide J2).lo) ((unhide J1).lo.kn.mono (by omega)) ((unhide J1).lo.kd.mono (by omega)) ((unhide J2).lo.kn.mono (by omega)) ((unhide J2).lo.kd.mono (by omega))).mono ?_; exact (unhide S1).lo.is.later (Below.refl _ _).drew; exact (unhide S2).lo.is.later (Below.refl _ _).drew; rintro e w1b ⟨x1, rfl, hb, o1, a1⟩; have hbx : Below w1.heap.size w1 w1b := below_of_drew hb; have szw1b := hbx.size; replace z2 := fun o => frozen_later hbx (World.block_lt_of_cell? _ _ k2_0) (z2 o); replace k0_0 := cell_later hbx k0_0; replace k0_1 := cell_later hbx k0_1; replace k0_2 := cell_later hbx k0_2; replace k0_3 := cell_later hbx k0_3; replace k0_4 := cell_later hbx k0_4; replace k0_5 := cell_later hbx k0_5; replace k0_6 := cell_later hbx k0_6; replace k0_7 := cell_later hbx k0_7; replace k1_0 := cell_later hbx k1_0; replace k1_1 := cell_later hbx k1_1; replace k1_2 := cell_later hbx k1_2; replace k1_3 := cell_later hbx k1_3; replace k1_4 := cell_later hbx k1_4; replace k1_5 := cell_later hbx k1_5; replace k1_6 := cell_later hbx k1_6; replace k1_7 := cell_later hbx k1_7; replace k2_0 := cell_later hbx k2_0; replace k2_1 := cell_later hbx k2_1; replace k2_2 := cell_later hbx k2_2; replace k2_3 := cell_later hbx k2_3; replace k2_4 := cell_later hbx k2_4; replace k2_5 := cell_later hbx k2_5; replace k2_6 := cell_later hbx k2_6; replace k2_7 := cell_later hbx k2_7; replace S1 := hide ((unhide S1).later hbx); replace S2 := hide ((unhide S2).later hbx); have q1 : IsQ w1b x1 (lowN (nQ d.lo * nQ e.lo) (dQ d.lo * dQ e.lo)) (lowD (nQ d.lo * nQ e.lo) (dQ d.lo * dQ e.lo)) := ⟨o1.is, a1.is⟩; have Px1 := hide (q1); have HBr := hide hbx; clear hbx hb o1 a1 q1))
    replace HB := hide (below_on (unhide HB) (unhide HBr))
    clear HBr
    go_wp2
    refine bodyPost_ret (v := .tuple #[.agg #[.bool r2.lo.num.g, .slice r2.lo.num.a r2.lo.num.n r2.lo.num.c, .bool r2.lo.den.g, .slice r2.lo.den.a r2.lo.den.n r2.lo.den.c, .bool r2.hi.num.g, .slice r2.hi.num.a r2.hi.num.n r2.hi.num.c, .bool r2.hi.den.g, .slice r2.hi.den.a r2.hi.den.n r2.hi.den.c], .bool ok]) (by simp [results, Try.results43, go_sem, k2_0, k2_1, k2_2, k2_3, k2_4, k2_5, k2_6, k2_7]) rfl ?_
    exact retS_fin (v := r2) (d := dr) (R := w.heap.size + 1 + 1) (by omega) (unhide HB) (metS_but (w5 := w4) (v := r2) (G := w.heap.size + 1 + 1)) ((unhide OV).wide (by omega) (by omega)) (unhide UU)
end Go.Proofs.Ytlmeokeanihhoaa
namespace Go.Proofs.Ytlmeokeanihhoaa
open Go.RowKit
set_option linter.unusedVariables false
set_option maxRecDepth 100000
set_option linter.unusedSimpArgs false

structure TlawMulS (w wx : World) (v0 : SV) (d0 : SD) (v1 : SV) (d1 : SD) : Prop where
  bel : Below w.heap.size w wx
  x0_0 : wx.cell? ⟨w.heap.size, 0, none⟩ = some (.bool v0.lo.num.g)
  x0_1 : wx.cell? ⟨w.heap.size, 1, none⟩ = some (.slice v0.lo.num.a v0.lo.num.n v0.lo.num.c)
  x0_2 : wx.cell? ⟨w.heap.size, 2, none⟩ = some (.bool v0.lo.den.g)
  x0_3 : wx.cell? ⟨w.heap.size, 3, none⟩ = some (.slice v0.lo.den.a v0.lo.den.n v0.lo.den.c)
  x0_4 : wx.cell? ⟨w.heap.size, 4, none⟩ = some (.bool v0.hi.num.g)
  x0_5 : wx.cell? ⟨w.heap.size, 5, none⟩ = some (.slice v0.hi.num.a v0.hi.num.n v0.hi.num.c)
  x0_6 : wx.cell? ⟨w.heap.size, 6, none⟩ = some (.bool v0.hi.den.g)
  x0_7 : wx.cell? ⟨w.heap.size, 7, none⟩ = some (.slice v0.hi.den.a v0.hi.den.n v0.hi.den.c)
  x1_0 : wx.cell? ⟨w.heap.size + 1, 0, none⟩ = some (.bool v1.lo.num.g)
  x1_1 : wx.cell? ⟨w.heap.size + 1, 1, none⟩ = some (.slice v1.lo.num.a v1.lo.num.n v1.lo.num.c)
  x1_2 : wx.cell? ⟨w.heap.size + 1, 2, none⟩ = some (.bool v1.lo.den.g)
  x1_3 : wx.cell? ⟨w.heap.size + 1, 3, none⟩ = some (.slice v1.lo.den.a v1.lo.den.n v1.lo.den.c)
  x1_4 : wx.cell? ⟨w.heap.size + 1, 4, none⟩ = some (.bool v1.hi.num.g)
  x1_5 : wx.cell? ⟨w.heap.size + 1, 5, none⟩ = some (.slice v1.hi.num.a v1.hi.num.n v1.hi.num.c)
  x1_6 : wx.cell? ⟨w.heap.size + 1, 6, none⟩ = some (.bool v1.hi.den.g)
  x1_7 : wx.cell? ⟨w.heap.size + 1, 7, none⟩ = some (.slice v1.hi.den.a v1.hi.den.n v1.hi.den.c)
  s0 : AllSl wx [(v0.lo.num, d0.lo.num), (v0.lo.den, d0.lo.den), (v0.hi.num, d0.hi.num), (v0.hi.den, d0.hi.den)]
  s1 : AllSl wx [(v1.lo.num, d1.lo.num), (v1.lo.den, d1.lo.den), (v1.hi.num, d1.hi.num), (v1.hi.den, d1.hi.den)]
theorem TlawMulS.later {w wx wy : World} {v0 : SV} {d0 : SD} {v1 : SV} {d1 : SD} (h : TlawMulS w wx v0 d0 v1 d1) (hb : Below wx.heap.size wx wy) : TlawMulS w wy v0 d0 v1 d1 :=
  ⟨below_on h.bel hb, cell_later hb h.x0_0, cell_later hb h.x0_1, cell_later hb h.x0_2, cell_later hb h.x0_3, cell_later hb h.x0_4, cell_later hb h.x0_5, cell_later hb h.x0_6, cell_later hb h.x0_7, cell_later hb h.x1_0, cell_later hb h.x1_1, cell_later hb h.x1_2, cell_later hb h.x1_3, cell_later hb h.x1_4, cell_later hb h.x1_5, cell_later hb h.x1_6, cell_later hb h.x1_7, h.s0.later hb, h.s1.later hb⟩
theorem TlawMulS.but {w wx wy : World} {v0 : SV} {d0 : SD} {v1 : SV} {d1 : SD} {lo hi : Nat} (h : TlawMulS w wx v0 d0 v1 d1) (hb : But lo hi wx wy) (hl : w.heap.size + 2 ≤ lo) (hx0 : AllSl w [(v0.lo.num, d0.lo.num), (v0.lo.den, d0.lo.den), (v0.hi.num, d0.hi.num), (v0.hi.den, d0.hi.den)]) (hx1 : AllSl w [(v1.lo.num, d1.lo.num), (v1.lo.den, d1.lo.den), (v1.hi.num, d1.hi.num), (v1.hi.den, d1.hi.den)]) : TlawMulS w wy v0 d0 v1 d1 := by
  have hB := hb.below h.bel (by omega) h.bel.size
  exact ⟨hB, hb.cell h.x0_0 (by omega), hb.cell h.x0_1 (by omega), hb.cell h.x0_2 (by omega), hb.cell h.x0_3 (by omega), hb.cell h.x0_4 (by omega), hb.cell h.x0_5 (by omega), hb.cell h.x0_6 (by omega), hb.cell h.x0_7 (by omega), hb.cell h.x1_0 (by omega), hb.cell h.x1_1 (by omega), hb.cell h.x1_2 (by omega), hb.cell h.x1_3 (by omega), hb.cell h.x1_4 (by omega), hb.cell h.x1_5 (by omega), hb.cell h.x1_6 (by omega), hb.cell h.x1_7 (by omega), hx0.later hB, hx1.later hB⟩
theorem TlawMulS.start (w : World) (v0 : SV) (d0 : SD) (v1 : SV) (d1 : SD) (t0 : TypeId) (t1 : TypeId) (hx0 : AllSl w [(v0.lo.num, d0.lo.num), (v0.lo.den, d0.lo.den), (v0.hi.num, d0.hi.num), (v0.hi.den, d0.hi.den)]) (hx1 : AllSl w [(v1.lo.num, d1.lo.num), (v1.lo.den, d1.lo.den), (v1.hi.num, d1.hi.num), (v1.hi.den, d1.hi.den)]) : TlawMulS w ((w.alloc (.cells #[.bool v0.lo.num.g, .slice v0.lo.num.a v0.lo.num.n v0.lo.num.c, .bool v0.lo.den.g, .slice v0.lo.den.a v0.lo.den.n v0.lo.den.c, .bool v0.hi.num.g, .slice v0.hi.num.a v0.hi.num.n v0.hi.num.c, .bool v0.hi.den.g, .slice v0.hi.den.a v0.hi.den.n v0.hi.den.c] t0)).alloc (.cells #[.bool v1.lo.num.g, .slice v1.lo.num.a v1.lo.num.n v1.lo.num.c, .bool v1.lo.den.g, .slice v1.lo.den.a v1.lo.den.n v1.lo.den.c, .bool v1.hi.num.g, .slice v1.hi.num.a v1.hi.num.n v1.hi.num.c, .bool v1.hi.den.g, .slice v1.hi.den.a v1.hi.den.n v1.hi.den.c] t1)) v0 d0 v1 d1 := by
  have hb : Below w.heap.size w ((w.alloc (.cells #[.bool v0.lo.num.g, .slice v0.lo.num.a v0.lo.num.n v0.lo.num.c, .bool v0.lo.den.g, .slice v0.lo.den.a v0.lo.den.n v0.lo.den.c, .bool v0.hi.num.g, .slice v0.hi.num.a v0.hi.num.n v0.hi.num.c, .bool v0.hi.den.g, .slice v0.hi.den.a v0.hi.den.n v0.hi.den.c] t0)).alloc (.cells #[.bool v1.lo.num.g, .slice v1.lo.num.a v1.lo.num.n v1.lo.num.c, .bool v1.lo.den.g, .slice v1.lo.den.a v1.lo.den.n v1.lo.den.c, .bool v1.hi.num.g, .slice v1.hi.num.a v1.hi.num.n v1.hi.num.c, .bool v1.hi.den.g, .slice v1.hi.den.a v1.hi.den.n v1.hi.den.c] t1)) := ((Below.refl _ _).alloc (Nat.le_refl _) _).alloc (by simp) _
  exact ⟨hb, by simp [go_sem], by simp [go_sem], by simp [go_sem], by simp [go_sem], by simp [go_sem], by simp [go_sem], by simp [go_sem], by simp [go_sem], by simp [go_sem], by simp [go_sem], by simp [go_sem], by simp [go_sem], by simp [go_sem], by simp [go_sem], by simp [go_sem], by simp [go_sem], hx0.later hb, hx1.later hb⟩

set_option maxHeartbeats 1000000 in
theorem lawMulS_out0 (v0 : SV) (v1 : SV) (w : World) (m0 : v0.lo.num.n ≤ maxLen) (m1 : v0.lo.den.n ≤ maxLen) (m2 : v0.hi.num.n ≤ maxLen) (m3 : v0.hi.den.n ≤ maxLen) (h0 : 0 ≤ 1048576) (h : 1048576 < v0.lo.num.n + v0.lo.den.n + v0.hi.num.n + v0.hi.den.n) :
    Calls Try.prog 10 #[.agg #[.bool v0.lo.num.g, .slice v0.lo.num.a v0.lo.num.n v0.lo.num.c, .bool v0.lo.den.g, .slice v0.lo.den.a v0.lo.den.n v0.lo.den.c, .bool v0.hi.num.g, .slice v0.hi.num.a v0.hi.num.n v0.hi.num.c, .bool v0.hi.den.g, .slice v0.hi.den.a v0.hi.den.n v0.hi.den.c], .agg #[.bool v1.lo.num.g, .slice v1.lo.num.a v1.lo.num.n v1.lo.num.c, .bool v1.lo.den.g, .slice v1.lo.den.a v1.lo.den.n v1.lo.den.c, .bool v1.hi.num.g, .slice v1.hi.num.a v1.hi.num.n v1.hi.num.c, .bool v1.hi.den.g, .slice v1.hi.den.a v1.hi.den.n v1.hi.den.c]] w fun e w' => e = .returned (.bool true) ∧ Below w.heap.size w w' := by
  go_enter Try.func10, Try.ntmps10
  go_wp2_with fail
  refine (szS_out v0 _ _ (by omega) (by omega) m0 m1 m2 m3 (by omega)).mono ?_
  rintro e w1 ⟨rfl, hb⟩
  have HB := hide (below_two' hb)
  clear hb
  go_wp2
  go_ret
  exact ⟨rfl, unhide HB⟩

set_option maxHeartbeats 1000000 in
theorem lawMulS_out1 (v0 : SV) (v1 : SV) (w : World) (m0 : v1.lo.num.n ≤ maxLen) (m1 : v1.lo.den.n ≤ maxLen) (m2 : v1.hi.num.n ≤ maxLen) (m3 : v1.hi.den.n ≤ maxLen) (h0 : v0.lo.num.n + v0.lo.den.n + v0.hi.num.n + v0.hi.den.n ≤ 1048576) (h : 1048576 < v0.lo.num.n + v0.lo.den.n + v0.hi.num.n + v0.hi.den.n + v1.lo.num.n + v1.lo.den.n + v1.hi.num.n + v1.hi.den.n) :
    Calls Try.prog 10 #[.agg #[.bool v0.lo.num.g, .slice v0.lo.num.a v0.lo.num.n v0.lo.num.c, .bool v0.lo.den.g, .slice v0.lo.den.a v0.lo.den.n v0.lo.den.c, .bool v0.hi.num.g, .slice v0.hi.num.a v0.hi.num.n v0.hi.num.c, .bool v0.hi.den.g, .slice v0.hi.den.a v0.hi.den.n v0.hi.den.c], .agg #[.bool v1.lo.num.g, .slice v1.lo.num.a v1.lo.num.n v1.lo.num.c, .bool v1.lo.den.g, .slice v1.lo.den.a v1.lo.den.n v1.lo.den.c, .bool v1.hi.num.g, .slice v1.hi.num.a v1.hi.num.n v1.hi.num.c, .bool v1.hi.den.g, .slice v1.hi.den.a v1.hi.den.n v1.hi.den.c]] w fun e w' => e = .returned (.bool true) ∧ Below w.heap.size w w' := by
  have hd0 : ¬ ((1048576 : Int) - (v0.lo.num.n : Int) - (v0.lo.den.n : Int) - (v0.hi.num.n : Int) - (v0.hi.den.n : Int) < 0) := by omega
  go_enter Try.func10, Try.ntmps10
  go_wp2_with fail
  refine (szS_in v0 _ _ (by omega) (by omega) (by omega)).mono ?_
  rintro e w1 ⟨rfl, hb⟩
  have y1_0 : w1.cell? ⟨w.heap.size + 1, 0, none⟩ = some (.bool v1.lo.num.g) := cell_later hb (by simp [go_sem])
  have y1_1 : w1.cell? ⟨w.heap.size + 1, 1, none⟩ = some (.slice v1.lo.num.a v1.lo.num.n v1.lo.num.c) := cell_later hb (by simp [go_sem])
  have y1_2 : w1.cell? ⟨w.heap.size + 1, 2, none⟩ = some (.bool v1.lo.den.g) := cell_later hb (by simp [go_sem])
  have y1_3 : w1.cell? ⟨w.heap.size + 1, 3, none⟩ = some (.slice v1.lo.den.a v1.lo.den.n v1.lo.den.c) := cell_later hb (by simp [go_sem])
  have y1_4 : w1.cell? ⟨w.heap.size + 1, 4, none⟩ = some (.bool v1.hi.num.g) := cell_later hb (by simp [go_sem])
  have y1_5 : w1.cell? ⟨w.heap.size + 1, 5, none⟩ = some (.slice v1.hi.num.a v1.hi.num.n v1.hi.num.c) := cell_later hb (by simp [go_sem])
  have y1_6 : w1.cell? ⟨w.heap.size + 1, 6, none⟩ = some (.bool v1.hi.den.g) := cell_later hb (by simp [go_sem])
  have y1_7 : w1.cell? ⟨w.heap.size + 1, 7, none⟩ = some (.slice v1.hi.den.a v1.hi.den.n v1.hi.den.c) := cell_later hb (by simp [go_sem])
  have HB := hide (below_two' hb)
  clear hb
  go_wp2_with fail
  refine (szS_out v1 _ _ (by omega) (by omega) m0 m1 m2 m3 (by omega)).mono ?_
  rintro e w2 ⟨rfl, hb⟩
  replace HB := hide (below_on (unhide HB) hb)
  clear hb
  go_wp2
  go_ret
  exact ⟨rfl, unhide HB⟩

set_option maxRecDepth 100000 in
set_option maxHeartbeats 16000000 in
theorem lawMulS_in (v0 : SV) (v1 : SV) (d0 : SD) (d1 : SD) (w : World) (hx0 : AllSl w [(v0.lo.num, d0.lo.num), (v0.lo.den, d0.lo.den), (v0.hi.num, d0.hi.num), (v0.hi.den, d0.hi.den)]) (hx1 : AllSl w [(v1.lo.num, d1.lo.num), (v1.lo.den, d1.lo.den), (v1.hi.num, d1.hi.num), (v1.hi.den, d1.hi.den)])  (h : v0.lo.num.n + v0.lo.den.n + v0.hi.num.n + v0.hi.den.n + v1.lo.num.n + v1.lo.den.n + v1.hi.num.n + v1.hi.den.n ≤ 1048576) :
    Calls Try.prog 10 #[.agg #[.bool v0.lo.num.g, .slice v0.lo.num.a v0.lo.num.n v0.lo.num.c, .bool v0.lo.den.g, .slice v0.lo.den.a v0.lo.den.n v0.lo.den.c, .bool v0.hi.num.g, .slice v0.hi.num.a v0.hi.num.n v0.hi.num.c, .bool v0.hi.den.g, .slice v0.hi.den.a v0.hi.den.n v0.hi.den.c], .agg #[.bool v1.lo.num.g, .slice v1.lo.num.a v1.lo.num.n v1.lo.num.c, .bool v1.lo.den.g, .slice v1.lo.den.a v1.lo.den.n v1.lo.den.c, .bool v1.hi.num.g, .slice v1.hi.num.a v1.hi.num.n v1.hi.num.c, .bool v1.hi.den.g, .slice v1.hi.den.a v1.hi.den.n v1.hi.den.c]] w fun e w' => e = .returned (.bool true) ∧ Below w.heap.size w w' := by
  have HX0 := hide hx0
  have HX1 := hide hx1
  clear hx0 hx1
  have l0 : v0.lo.num.n ≤ 1048576 := by omega
  have lm0 : v0.lo.num.n ≤ maxLen := by unfold maxLen; omega
  have l1 : v0.lo.den.n ≤ 1048576 := by omega
  have lm1 : v0.lo.den.n ≤ maxLen := by unfold maxLen; omega
  have l2 : v0.hi.num.n ≤ 1048576 := by omega
  have lm2 : v0.hi.num.n ≤ maxLen := by unfold maxLen; omega
  have l3 : v0.hi.den.n ≤ 1048576 := by omega
  have lm3 : v0.hi.den.n ≤ maxLen := by unfold maxLen; omega
  have l4 : v1.lo.num.n ≤ 1048576 := by omega
  have lm4 : v1.lo.num.n ≤ maxLen := by unfold maxLen; omega
  have l5 : v1.lo.den.n ≤ 1048576 := by omega
  have lm5 : v1.lo.den.n ≤ maxLen := by unfold maxLen; omega
  have l6 : v1.hi.num.n ≤ 1048576 := by omega
  have lm6 : v1.hi.num.n ≤ maxLen := by unfold maxLen; omega
  have l7 : v1.hi.den.n ≤ 1048576 := by omega
  have lm7 : v1.hi.den.n ≤ maxLen := by unfold maxLen; omega
  have hd0 : ¬ ((1048576 : Int) - (v0.lo.num.n : Int) - (v0.lo.den.n : Int) - (v0.hi.num.n : Int) - (v0.hi.den.n : Int) < 0) := by omega
  have hd1 : ¬ ((1048576 : Int) - (v0.lo.num.n : Int) - (v0.lo.den.n : Int) - (v0.hi.num.n : Int) - (v0.hi.den.n : Int) - (v1.lo.num.n : Int) - (v1.lo.den.n : Int) - (v1.hi.num.n : Int) - (v1.hi.den.n : Int) < 0) := by omega
  obtain ⟨U, HU⟩ : ∃ U : SD → Bool → Prop, Hid (U = AnsS (gS d0 && gS d1) (mLo d0 d1).1 (mLo d0 d1).2 (mHi d0 d1).1 (mHi d0 d1).2) := ⟨_, hide rfl⟩
  have US : Hid (∀ d ok d' ok', U d ok → U d' ok' → d = d' ∧ ok = ok') := hide (by rw [unhide HU]; exact fun d ok d' ok' h k => h.same k)
  have UL : Hid (∀ d ok, U d ok → d.lo.num.xs.length ≤ 40 ∧ d.lo.den.xs.length ≤ 40 ∧ d.hi.num.xs.length ≤ 40 ∧ d.hi.den.xs.length ≤ 40) := hide (by rw [unhide HU]; exact fun d ok h => h.lens)
  have CS : Hid (∀ (q0 : SV) (q1 : SV) (w : World), AllAr w [(q0.lo.num, d0.lo.num), (q0.lo.den, d0.lo.den), (q0.hi.num, d0.hi.num), (q0.hi.den, d0.hi.den)] → AllAr w [(q1.lo.num, d1.lo.num), (q1.lo.den, d1.lo.den), (q1.hi.num, d1.hi.num), (q1.hi.den, d1.hi.den)] → Calls Try.prog 43 #[.agg #[.bool q0.lo.num.g, .slice q0.lo.num.a q0.lo.num.n q0.lo.num.c, .bool q0.lo.den.g, .slice q0.lo.den.a q0.lo.den.n q0.lo.den.c, .bool q0.hi.num.g, .slice q0.hi.num.a q0.hi.num.n q0.hi.num.c, .bool q0.hi.den.g, .slice q0.hi.den.a q0.hi.den.n q0.hi.den.c], .agg #[.bool q1.lo.num.g, .slice q1.lo.num.a q1.lo.num.n q1.lo.num.c, .bool q1.lo.den.g, .slice q1.lo.den.a q1.lo.den.n q1.lo.den.c, .bool q1.hi.num.g, .slice q1.hi.num.a q1.hi.num.n q1.hi.num.c, .bool q1.hi.den.g, .slice q1.hi.den.a q1.hi.den.n q1.hi.den.c]] w (RetS w U)) := hide (by rw [unhide HU]; exact fun q0 q1 w h0 h1 => MulSS q0 q1 d0 d1 w h0 h1)
  have CI : Hid (∀ (q0 : SV) (q1 : SV) (w : World), AllAr w [(q0.lo.num, d0.lo.num), (q0.lo.den, d0.lo.den), (q0.hi.num, d0.hi.num), (q0.hi.den, d0.hi.den)] → AllAr w [(q1.lo.num, d1.lo.num), (q1.lo.den, d1.lo.den), (q1.hi.num, d1.hi.num), (q1.hi.den, d1.hi.den)] → Calls Try.prog 44 #[.agg #[.bool q0.lo.num.g, .slice q0.lo.num.a q0.lo.num.n q0.lo.num.c, .bool q0.lo.den.g, .slice q0.lo.den.a q0.lo.den.n q0.lo.den.c, .bool q0.hi.num.g, .slice q0.hi.num.a q0.hi.num.n q0.hi.num.c, .bool q0.hi.den.g, .slice q0.hi.den.a q0.hi.den.n q0.hi.den.c], .agg #[.bool q1.lo.num.g, .slice q1.lo.num.a q1.lo.num.n q1.lo.num.c, .bool q1.lo.den.g, .slice q1.lo.den.a q1.lo.den.n q1.lo.den.c, .bool q1.hi.num.g, .slice q1.hi.num.a q1.hi.num.n q1.hi.num.c, .bool q1.hi.den.g, .slice q1.hi.den.a q1.hi.den.n q1.hi.den.c]] w (RetS w U)) := hide (by rw [unhide HU]; exact fun q0 q1 w h0 h1 => MulSI q0 q1 d0 d1 w h0 h1)
  clear HU
  go_enter Try.func10, Try.ntmps10
  go_wp2_with fail
  refine (szS_in v0 _ _ (by omega) (by omega) (by omega)).mono ?_
  rintro e w1 ⟨rfl, hb⟩
  have T := hide ((TlawMulS.start w v0 d0 v1 d1 38 38 (unhide HX0) (unhide HX1)).later hb)
  have z : w.heap.size + 2 ≤ w1.heap.size := by have := hb.size; simp at this; omega
  have y0 := (unhide T).x1_0
  have y1 := (unhide T).x1_1
  have y2 := (unhide T).x1_2
  have y3 := (unhide T).x1_3
  have y4 := (unhide T).x1_4
  have y5 := (unhide T).x1_5
  have y6 := (unhide T).x1_6
  have y7 := (unhide T).x1_7
  clear hb
  go_wp2_with fail
  refine (szS_in v1 _ _ (by omega) (by omega) (by omega)).mono ?_
  rintro e w2 ⟨rfl, hb⟩
  replace T := hide ((unhide T).later hb)
  replace z : w.heap.size + 2 ≤ w2.heap.size := Nat.le_trans z hb.size
  clear y0 y1 y2 y3 y4 y5 y6 y7
  clear hb
  go_upto_region 8 with fail
  go_cut [6, 7] (fun p q wx => ∃ (G : Nat) (v : SV) (d : SD) (ok : Bool), p = .pointer (some ⟨G, 0, none⟩) ∧ q = .bool ok ∧ Hid (MetS w2 wx G v d) ∧ Hid (U d ok) ∧ Hid (TlawMulS w wx v0 d0 v1 d1))
  case first =>
    have ka0 := (unhide T).x0_0
    have ka1 := (unhide T).x0_1
    have ka2 := (unhide T).x0_2
    have ka3 := (unhide T).x0_3
    have ka4 := (unhide T).x0_4
    have ka5 := (unhide T).x0_5
    have ka6 := (unhide T).x0_6
    have ka7 := (unhide T).x0_7
    have ka8 := (unhide T).x1_0
    have ka9 := (unhide T).x1_1
    have ka10 := (unhide T).x1_2
    have ka11 := (unhide T).x1_3
    have ka12 := (unhide T).x1_4
    have ka13 := (unhide T).x1_5
    have ka14 := (unhide T).x1_6
    have ka15 := (unhide T).x1_7
    go_region_held3 (fun w' => w'.cell? ⟨w.heap.size, 0, none⟩ = some (.bool v0.lo.num.g) ∧ w'.cell? ⟨w.heap.size, 1, none⟩ = some (.slice v0.lo.num.a v0.lo.num.n v0.lo.num.c) ∧ w'.cell? ⟨w.heap.size, 2, none⟩ = some (.bool v0.lo.den.g) ∧ w'.cell? ⟨w.heap.size, 3, none⟩ = some (.slice v0.lo.den.a v0.lo.den.n v0.lo.den.c) ∧ w'.cell? ⟨w.heap.size, 4, none⟩ = some (.bool v0.hi.num.g) ∧ w'.cell? ⟨w.heap.size, 5, none⟩ = some (.slice v0.hi.num.a v0.hi.num.n v0.hi.num.c) ∧ w'.cell? ⟨w.heap.size, 6, none⟩ = some (.bool v0.hi.den.g) ∧ w'.cell? ⟨w.heap.size, 7, none⟩ = some (.slice v0.hi.den.a v0.hi.den.n v0.hi.den.c) ∧ w'.cell? ⟨w.heap.size + 1, 0, none⟩ = some (.bool v1.lo.num.g) ∧ w'.cell? ⟨w.heap.size + 1, 1, none⟩ = some (.slice v1.lo.num.a v1.lo.num.n v1.lo.num.c) ∧ w'.cell? ⟨w.heap.size + 1, 2, none⟩ = some (.bool v1.lo.den.g) ∧ w'.cell? ⟨w.heap.size + 1, 3, none⟩ = some (.slice v1.lo.den.a v1.lo.den.n v1.lo.den.c) ∧ w'.cell? ⟨w.heap.size + 1, 4, none⟩ = some (.bool v1.hi.num.g) ∧ w'.cell? ⟨w.heap.size + 1, 5, none⟩ = some (.slice v1.hi.num.a v1.hi.num.n v1.hi.num.c) ∧ w'.cell? ⟨w.heap.size + 1, 6, none⟩ = some (.bool v1.hi.den.g) ∧ w'.cell? ⟨w.heap.size + 1, 7, none⟩ = some (.slice v1.hi.den.a v1.hi.den.n v1.hi.den.c)) (with_reducible (first | exact ⟨ka0, ka1, ka2, ka3, ka4, ka5, ka6, ka7, ka8, ka9, ka10, ka11, ka12, ka13, ka14, ka15⟩ | exact ⟨cd_other ka0, cd_other ka1, cd_other ka2, cd_other ka3, cd_other ka4, cd_other ka5, cd_other ka6, cd_other ka7, cd_other ka8, cd_other ka9, cd_other ka10, cd_other ka11, cd_other ka12, cd_other ka13, cd_other ka14, cd_other ka15⟩ | exact ⟨ca_other ka0, ca_other ka1, ca_other ka2, ca_other ka3, ca_other ka4, ca_other ka5, ca_other ka6, ca_other ka7, ca_other ka8, ca_other ka9, ca_other ka10, ca_other ka11, ca_other ka12, ca_other ka13, ca_other ka14, ca_other ka15⟩ | exact ⟨cd_other (ca_other ka0), cd_other (ca_other ka1), cd_other (ca_other ka2), cd_other (ca_other ka3), cd_other (ca_other ka4), cd_other (ca_other ka5), cd_other (ca_other ka6), cd_other (ca_other ka7), cd_other (ca_other ka8), cd_other (ca_other ka9), cd_other (ca_other ka10), cd_other (ca_other ka11), cd_other (ca_other ka12), cd_other (ca_other ka13), cd_other (ca_other ka14), cd_other (ca_other ka15)⟩ | exact ⟨cs_other (cs_other (cs_other (cs_other (cs_other (cs_other (cs_other (cs_other (ka0) (by omega)) (by omega)) (by omega)) (by omega)) (by omega)) (by omega)) (by omega)) (by omega), cs_other (cs_other (cs_other (cs_other (cs_other (cs_other (cs_other (cs_other (ka1) (by omega)) (by omega)) (by omega)) (by omega)) (by omega)) (by omega)) (by omega)) (by omega), cs_other (cs_other (cs_other (cs_other (cs_other (cs_other (cs_other (cs_other (ka2) (by omega)) (by omega)) (by omega)) (by omega)) (by omega)) (by omega)) (by omega)) (by omega), cs_other (cs_other (cs_other (cs_other (cs_other (cs_other (cs_other (cs_other (ka3) (by omega)) (by omega)) (by omega)) (by omega)) (by omega)) (by omega)) (by omega)) (by omega), cs_other (cs_other (cs_other (cs_other (cs_other (cs_other (cs_other (cs_other (ka4) (by omega)) (by omega)) (by omega)) (by omega)) (by omega)) (by omega)) (by omega)) (by omega), cs_other (cs_other (cs_other (cs_other (cs_other (cs_other (cs_other (cs_other (ka5) (by omega)) (by omega)) (by omega)) (by omega)) (by omega)) (by omega)) (by omega)) (by omega), cs_other (cs_other (cs_other (cs_other (cs_other (cs_other (cs_other (cs_other (ka6) (by omega)) (by omega)) (by omega)) (by omega)) (by omega)) (by omega)) (by omega)) (by omega), cs_other (cs_other (cs_other (cs_other (cs_other (cs_other (cs_other (cs_other (ka7) (by omega)) (by omega)) (by omega)) (by omega)) (by omega)) (by omega)) (by omega)) (by omega), cs_other (cs_other (cs_other (cs_other (cs_other (cs_other (cs_other (cs_other (ka8) (by omega)) (by omega)) (by omega)) (by omega)) (by omega)) (by omega)) (by omega)) (by omega), cs_other (cs_other (cs_other (cs_other (cs_other (cs_other (cs_other (cs_other (ka9) (by omega)) (by omega)) (by omega)) (by omega)) (by omega)) (by omega)) (by omega)) (by omega), cs_other (cs_other (cs_other (cs_other (cs_other (cs_other (cs_other (cs_other (ka10) (by omega)) (by omega)) (by omega)) (by omega)) (by omega)) (by omega)) (by omega)) (by omega), cs_other (cs_other (cs_other (cs_other (cs_other (cs_other (cs_other (cs_other (ka11) (by omega)) (by omega)) (by omega)) (by omega)) (by omega)) (by omega)) (by omega)) (by omega), cs_other (cs_other (cs_other (cs_other (cs_other (cs_other (cs_other (cs_other (ka12) (by omega)) (by omega)) (by omega)) (by omega)) (by omega)) (by omega)) (by omega)) (by omega), cs_other (cs_other (cs_other (cs_other (cs_other (cs_other (cs_other (cs_other (ka13) (by omega)) (by omega)) (by omega)) (by omega)) (by omega)) (by omega)) (by omega)) (by omega), cs_other (cs_other (cs_other (cs_other (cs_other (cs_other (cs_other (cs_other (ka14) (by omega)) (by omega)) (by omega)) (by omega)) (by omega)) (by omega)) (by omega)) (by omega), cs_other (cs_other (cs_other (cs_other (cs_other (cs_other (cs_other (cs_other (ka15) (by omega)) (by omega)) (by omega)) (by omega)) (by omega)) (by omega)) (by omega)) (by omega)⟩ | fail))
      (first
      | (go_at_call_of 36 (Value.agg #[Value.bool v0.lo.num.g, Value.slice v0.lo.num.a v0.lo.num.n v0.lo.num.c, Value.bool v0.lo.den.g, Value.slice v0.lo.den.a v0.lo.den.n v0.lo.den.c, Value.bool v0.hi.num.g, Value.slice v0.hi.num.a v0.hi.num.n v0.hi.num.c, Value.bool v0.hi.den.g, Value.slice v0.hi.den.a v0.hi.den.n v0.hi.den.c]); refine (toS_at v0 d0 _ ?_ l0 l1 l2 l3).mono ?_; (first | exact (unhide T).s0.later (Below.refl _ _).drew | exact (unhide T).s0.later ((Below.refl _ _).alloc (Nat.le_refl _) _).drew); rintro e wa0 ⟨qa0, rfl, hb, hna0, ow, ar⟩; have hbx : Below w2.heap.size w2 wa0 := (by first | exact below_of_drew hb | exact bad hb); have sz0 := hbx.size; replace T := hide ((unhide T).later hbx); replace ka0 := (unhide T).x0_0; replace ka1 := (unhide T).x0_1; replace ka2 := (unhide T).x0_2; replace ka3 := (unhide T).x0_3; replace ka4 := (unhide T).x0_4; replace ka5 := (unhide T).x0_5; replace ka6 := (unhide T).x0_6; replace ka7 := (unhide T).x0_7; replace ka8 := (unhide T).x1_0; replace ka9 := (unhide T).x1_1; replace ka10 := (unhide T).x1_2; replace ka11 := (unhide T).x1_3; replace ka12 := (unhide T).x1_4; replace ka13 := (unhide T).x1_5; replace ka14 := (unhide T).x1_6; replace ka15 := (unhide T).x1_7; (try (replace gf := fun o => frozen_later hbx (World.block_lt_of_cell? _ _ g0) (gf o); replace g0 := cell_later hbx g0; replace g1 := cell_later hbx g1; replace g2 := cell_later hbx g2; replace g3 := cell_later hbx g3; replace g4 := cell_later hbx g4; replace g5 := cell_later hbx g5; replace g6 := cell_later hbx g6; replace g7 := cell_later hbx g7)); (try (refine cutP (p := wa0.cell? ⟨w2.heap.size, 0, none⟩ = some (.bool false) ∧ wa0.cell? ⟨w2.heap.size, 1, none⟩ = some (.slice none 0 0) ∧ wa0.cell? ⟨w2.heap.size, 2, none⟩ = some (.bool false) ∧ wa0.cell? ⟨w2.heap.size, 3, none⟩ = some (.slice none 0 0) ∧ wa0.cell? ⟨w2.heap.size, 4, none⟩ = some (.bool false) ∧ wa0.cell? ⟨w2.heap.size, 5, none⟩ = some (.slice none 0 0) ∧ wa0.cell? ⟨w2.heap.size, 6, none⟩ = some (.bool false) ∧ wa0.cell? ⟨w2.heap.size, 7, none⟩ = some (.slice none 0 0) ∧ ∀ o, wa0.frozen? ⟨w2.heap.size, o, none⟩ = false) ?_ (fun dd => ?_); (focus (refine ⟨cell_later hb ?_, cell_later hb ?_, cell_later hb ?_, cell_later hb ?_, cell_later hb ?_, cell_later hb ?_, cell_later hb ?_, cell_later hb ?_, fun o => frozen_later hb ?_ ?_⟩ <;> (simp [go_sem]; done))); obtain ⟨g0, g1, g2, g3, g4, g5, g6, g7, gf⟩ := dd)); have zz0 := hb.size; (try simp at zz0); have HBr := hide hbx; have A0 := hide ar; clear hb hbx ow ar hna0)
      | (go_at_call_of 36 (Value.agg #[Value.bool v1.lo.num.g, Value.slice v1.lo.num.a v1.lo.num.n v1.lo.num.c, Value.bool v1.lo.den.g, Value.slice v1.lo.den.a v1.lo.den.n v1.lo.den.c, Value.bool v1.hi.num.g, Value.slice v1.hi.num.a v1.hi.num.n v1.hi.num.c, Value.bool v1.hi.den.g, Value.slice v1.hi.den.a v1.hi.den.n v1.hi.den.c]); refine (toS_at v1 d1 _ ?_ l4 l5 l6 l7).mono ?_; (first | exact (unhide T).s1 | exact (unhide T).s1.later ((Below.refl _ _).alloc (Nat.le_refl _) _)); rintro e wa1 ⟨qa1, rfl, hb, hna1, ow, ar⟩; have hbx : Below wa0.heap.size wa0 wa1 := (by first | exact hb | exact ba hb); have sz1 := hbx.size; replace T := hide ((unhide T).later hbx); replace ka0 := (unhide T).x0_0; replace ka1 := (unhide T).x0_1; replace ka2 := (unhide T).x0_2; replace ka3 := (unhide T).x0_3; replace ka4 := (unhide T).x0_4; replace ka5 := (unhide T).x0_5; replace ka6 := (unhide T).x0_6; replace ka7 := (unhide T).x0_7; replace ka8 := (unhide T).x1_0; replace ka9 := (unhide T).x1_1; replace ka10 := (unhide T).x1_2; replace ka11 := (unhide T).x1_3; replace ka12 := (unhide T).x1_4; replace ka13 := (unhide T).x1_5; replace ka14 := (unhide T).x1_6; replace ka15 := (unhide T).x1_7; replace A0 := hide ((unhide A0).later hbx); (try (replace gf := fun o => frozen_later hbx (World.block_lt_of_cell? _ _ g0) (gf o); replace g0 := cell_later hbx g0; replace g1 := cell_later hbx g1; replace g2 := cell_later hbx g2; replace g3 := cell_later hbx g3; replace g4 := cell_later hbx g4; replace g5 := cell_later hbx g5; replace g6 := cell_later hbx g6; replace g7 := cell_later hbx g7)); (try (refine cutP (p := wa1.cell? ⟨wa0.heap.size, 0, none⟩ = some (.bool false) ∧ wa1.cell? ⟨wa0.heap.size, 1, none⟩ = some (.slice none 0 0) ∧ wa1.cell? ⟨wa0.heap.size, 2, none⟩ = some (.bool false) ∧ wa1.cell? ⟨wa0.heap.size, 3, none⟩ = some (.slice none 0 0) ∧ wa1.cell? ⟨wa0.heap.size, 4, none⟩ = some (.bool false) ∧ wa1.cell? ⟨wa0.heap.size, 5, none⟩ = some (.slice none 0 0) ∧ wa1.cell? ⟨wa0.heap.size, 6, none⟩ = some (.bool false) ∧ wa1.cell? ⟨wa0.heap.size, 7, none⟩ = some (.slice none 0 0) ∧ ∀ o, wa1.frozen? ⟨wa0.heap.size, o, none⟩ = false) ?_ (fun dd => ?_); (focus (refine ⟨cell_later hb ?_, cell_later hb ?_, cell_later hb ?_, cell_later hb ?_, cell_later hb ?_, cell_later hb ?_, cell_later hb ?_, cell_later hb ?_, fun o => frozen_later hb ?_ ?_⟩ <;> (simp [go_sem]; done))); obtain ⟨g0, g1, g2, g3, g4, g5, g6, g7, gf⟩ := dd)); have zz1 := hb.size; (try simp at zz1); have HBr := hide (below_on (unhide HBr) hbx); have A1 := hide ar; clear hb hbx ow ar hna1)
      | (go_at_call 43; refine (unhide CS _ _ _ ?_ ?_).mono ?_; (first | exact unhide A0 | exact (unhide A0).later ((Below.refl _ _).alloc (Nat.le_refl _) _)); (first | exact unhide A1 | exact (unhide A1).later ((Below.refl _ _).alloc (Nat.le_refl _) _)); rintro e w5 ⟨vr, dr, okr, rfl, hb, hown, hu⟩; have hbx : Below wa1.heap.size wa1 w5 := (by first | exact hb | exact ba hb); have sz2 := hbx.size; replace T := hide ((unhide T).later hbx); replace ka0 := (unhide T).x0_0; replace ka1 := (unhide T).x0_1; replace ka2 := (unhide T).x0_2; replace ka3 := (unhide T).x0_3; replace ka4 := (unhide T).x0_4; replace ka5 := (unhide T).x0_5; replace ka6 := (unhide T).x0_6; replace ka7 := (unhide T).x0_7; replace ka8 := (unhide T).x1_0; replace ka9 := (unhide T).x1_1; replace ka10 := (unhide T).x1_2; replace ka11 := (unhide T).x1_3; replace ka12 := (unhide T).x1_4; replace ka13 := (unhide T).x1_5; replace ka14 := (unhide T).x1_6; replace ka15 := (unhide T).x1_7; replace A0 := hide ((unhide A0).later hbx); replace A1 := hide ((unhide A1).later hbx); (try (replace gf := fun o => frozen_later hbx (World.block_lt_of_cell? _ _ g0) (gf o); replace g0 := cell_later hbx g0; replace g1 := cell_later hbx g1; replace g2 := cell_later hbx g2; replace g3 := cell_later hbx g3; replace g4 := cell_later hbx g4; replace g5 := cell_later hbx g5; replace g6 := cell_later hbx g6; replace g7 := cell_later hbx g7)); (try (refine cutP (p := w5.cell? ⟨wa1.heap.size, 0, none⟩ = some (.bool false) ∧ w5.cell? ⟨wa1.heap.size, 1, none⟩ = some (.slice none 0 0) ∧ w5.cell? ⟨wa1.heap.size, 2, none⟩ = some (.bool false) ∧ w5.cell? ⟨wa1.heap.size, 3, none⟩ = some (.slice none 0 0) ∧ w5.cell? ⟨wa1.heap.size, 4, none⟩ = some (.bool false) ∧ w5.cell? ⟨wa1.heap.size, 5, none⟩ = some (.slice none 0 0) ∧ w5.cell? ⟨wa1.heap.size, 6, none⟩ = some (.bool false) ∧ w5.cell? ⟨wa1.heap.size, 7, none⟩ = some (.slice none 0 0) ∧ ∀ o, w5.frozen? ⟨wa1.heap.size, o, none⟩ = false) ?_ (fun dd => ?_); (focus (refine ⟨cell_later hb ?_, cell_later hb ?_, cell_later hb ?_, cell_later hb ?_, cell_later hb ?_, cell_later hb ?_, cell_later hb ?_, cell_later hb ?_, fun o => frozen_later hb ?_ ?_⟩ <;> (simp [go_sem]; done))); obtain ⟨g0, g1, g2, g3, g4, g5, g6, g7, gf⟩ := dd)); have zz2 := hb.size; (try simp at zz2); have HBr := hide (below_on (unhide HBr) hbx); have O5 := hide hown; have U5 := hide hu; clear hb hbx hown hu))
    all_goals go_wp2_with fail
    all_goals go_meet
    all_goals first
      | (with_reducible refine ⟨_, vr, dr, okr, rfl, rfl, hide (metS_alloc 41 (unhide HBr) (unhide O5) ?_), U5, hide ((unhide T).later ((Below.refl _ _).alloc (Nat.le_refl _) _))⟩; omega)
      | (with_reducible refine ⟨_, vr, dr, okr, rfl, rfl, hide (metS_set (unhide HBr) (unhide O5) ?_ ?_ g0 g1 g2 g3 g4 g5 g6 g7), U5, hide ((unhide T).but metS_but ?_ (unhide HX0) (unhide HX1))⟩ <;> first | omega | (simp; done) | (simp; omega))
  case rest =>
    obtain ⟨G0, vr, dr, okr, rfl, rfl, HM, UR, T3⟩ := hcut
    clear T
    have T := T3
    clear T3
    have V0 := hide (unhide HM).var
    have zG1 : w.heap.size + 2 ≤ G0 := Nat.le_trans z (unhide HM).lo
    have zG2 : G0 < wc.heap.size := (unhide HM).hi
    clear HM
    have r0 : vr.lo.num.n ≤ 40 := by rw [← ((unhide V0).own.own (vr.lo.num, dr.lo.num) (by simp)).len]; exact (unhide UL _ _ (unhide UR)).1
    have rm0 : vr.lo.num.n ≤ maxLen := by unfold maxLen; omega
    have rl0 : vr.lo.num.n ≤ 1048576 := by omega
    have r1 : vr.lo.den.n ≤ 40 := by rw [← ((unhide V0).own.own (vr.lo.den, dr.lo.den) (by simp)).len]; exact (unhide UL _ _ (unhide UR)).2.1
    have rm1 : vr.lo.den.n ≤ maxLen := by unfold maxLen; omega
    have rl1 : vr.lo.den.n ≤ 1048576 := by omega
    have r2 : vr.hi.num.n ≤ 40 := by rw [← ((unhide V0).own.own (vr.hi.num, dr.hi.num) (by simp)).len]; exact (unhide UL _ _ (unhide UR)).2.2.1
    have rm2 : vr.hi.num.n ≤ maxLen := by unfold maxLen; omega
    have rl2 : vr.hi.num.n ≤ 1048576 := by omega
    have r3 : vr.hi.den.n ≤ 40 := by rw [← ((unhide V0).own.own (vr.hi.den, dr.hi.den) (by simp)).len]; exact (unhide UL _ _ (unhide UR)).2.2.2
    have rm3 : vr.hi.den.n ≤ maxLen := by unfold maxLen; omega
    have rl3 : vr.hi.den.n ≤ 1048576 := by omega
    have p0 := (unhide T).x0_0
    have p1 := (unhide T).x0_1
    have p2 := (unhide T).x0_2
    have p3 := (unhide T).x0_3
    have p4 := (unhide T).x0_4
    have p5 := (unhide T).x0_5
    have p6 := (unhide T).x0_6
    have p7 := (unhide T).x0_7
    go_wp2_with fail
    refine (toS_at v0 d0 _ (unhide T).s0 l0 l1 l2 l3).mono ?_
    rintro e wx0 ⟨y0, rfl, hb, hnn, ow0, ar0⟩
    have hn0 := hide hnn
    clear hnn
    have VX0 := hide (VarS.start 41 ow0)
    have AX0 := hide (ar0.later ((Below.refl _ _).alloc (Nat.le_refl _) (.cells #[.bool y0.lo.num.g, .slice y0.lo.num.a y0.lo.num.n y0.lo.num.c, .bool y0.lo.den.g, .slice y0.lo.den.a y0.lo.den.n y0.lo.den.c, .bool y0.hi.num.g, .slice y0.hi.num.a y0.hi.num.n y0.hi.num.c, .bool y0.hi.den.g, .slice y0.hi.den.a y0.hi.den.n y0.hi.den.c] 41)))
    have s0 : wc.heap.size ≤ wx0.heap.size := by have := hb.size; exact this
    replace V0 := hide ((unhide V0).later hb)
    replace T := hide ((unhide T).later hb)
    replace V0 := hide ((unhide V0).later ((Below.refl _ _).alloc (Nat.le_refl _) (.cells #[.bool y0.lo.num.g, .slice y0.lo.num.a y0.lo.num.n y0.lo.num.c, .bool y0.lo.den.g, .slice y0.lo.den.a y0.lo.den.n y0.lo.den.c, .bool y0.hi.num.g, .slice y0.hi.num.a y0.hi.num.n y0.hi.num.c, .bool y0.hi.den.g, .slice y0.hi.den.a y0.hi.den.n y0.hi.den.c] 41)))
    replace T := hide ((unhide T).later ((Below.refl _ _).alloc (Nat.le_refl _) (.cells #[.bool y0.lo.num.g, .slice y0.lo.num.a y0.lo.num.n y0.lo.num.c, .bool y0.lo.den.g, .slice y0.lo.den.a y0.lo.den.n y0.lo.den.c, .bool y0.hi.num.g, .slice y0.hi.num.a y0.hi.num.n y0.hi.num.c, .bool y0.hi.den.g, .slice y0.hi.den.a y0.hi.den.n y0.hi.den.c] 41)))
    clear hb ow0 ar0 p0 p1 p2 p3 p4 p5 p6 p7
    have p0 := (unhide T).x1_0
    have p1 := (unhide T).x1_1
    have p2 := (unhide T).x1_2
    have p3 := (unhide T).x1_3
    have p4 := (unhide T).x1_4
    have p5 := (unhide T).x1_5
    have p6 := (unhide T).x1_6
    have p7 := (unhide T).x1_7
    go_wp2_with fail
    refine (toS_at v1 d1 _ (unhide T).s1 l4 l5 l6 l7).mono ?_
    rintro e wx1 ⟨y1, rfl, hb, hnn, ow1, ar1⟩
    have hn1 := hide hnn
    clear hnn
    have VX1 := hide (VarS.start 41 (ow1.wide (lo' := wx0.heap.size + 1) (by simp) (Nat.le_refl _)))
    have AX1 := hide (ar1.later ((Below.refl _ _).alloc (Nat.le_refl _) (.cells #[.bool y1.lo.num.g, .slice y1.lo.num.a y1.lo.num.n y1.lo.num.c, .bool y1.lo.den.g, .slice y1.lo.den.a y1.lo.den.n y1.lo.den.c, .bool y1.hi.num.g, .slice y1.hi.num.a y1.hi.num.n y1.hi.num.c, .bool y1.hi.den.g, .slice y1.hi.den.a y1.hi.den.n y1.hi.den.c] 41)))
    have s1 : wx0.heap.size + 1 ≤ wx1.heap.size := by have := hb.size; simp at this; omega
    replace V0 := hide ((unhide V0).later hb)
    replace T := hide ((unhide T).later hb)
    replace VX0 := hide ((unhide VX0).later hb)
    replace AX0 := hide ((unhide AX0).later hb)
    replace V0 := hide ((unhide V0).later ((Below.refl _ _).alloc (Nat.le_refl _) (.cells #[.bool y1.lo.num.g, .slice y1.lo.num.a y1.lo.num.n y1.lo.num.c, .bool y1.lo.den.g, .slice y1.lo.den.a y1.lo.den.n y1.lo.den.c, .bool y1.hi.num.g, .slice y1.hi.num.a y1.hi.num.n y1.hi.num.c, .bool y1.hi.den.g, .slice y1.hi.den.a y1.hi.den.n y1.hi.den.c] 41)))
    replace T := hide ((unhide T).later ((Below.refl _ _).alloc (Nat.le_refl _) (.cells #[.bool y1.lo.num.g, .slice y1.lo.num.a y1.lo.num.n y1.lo.num.c, .bool y1.lo.den.g, .slice y1.lo.den.a y1.lo.den.n y1.lo.den.c, .bool y1.hi.num.g, .slice y1.hi.num.a y1.hi.num.n y1.hi.num.c, .bool y1.hi.den.g, .slice y1.hi.den.a y1.hi.den.n y1.hi.den.c] 41)))
    replace VX0 := hide ((unhide VX0).later ((Below.refl _ _).alloc (Nat.le_refl _) (.cells #[.bool y1.lo.num.g, .slice y1.lo.num.a y1.lo.num.n y1.lo.num.c, .bool y1.lo.den.g, .slice y1.lo.den.a y1.lo.den.n y1.lo.den.c, .bool y1.hi.num.g, .slice y1.hi.num.a y1.hi.num.n y1.hi.num.c, .bool y1.hi.den.g, .slice y1.hi.den.a y1.hi.den.n y1.hi.den.c] 41)))
    replace AX0 := hide ((unhide AX0).later ((Below.refl _ _).alloc (Nat.le_refl _) (.cells #[.bool y1.lo.num.g, .slice y1.lo.num.a y1.lo.num.n y1.lo.num.c, .bool y1.lo.den.g, .slice y1.lo.den.a y1.lo.den.n y1.lo.den.c, .bool y1.hi.num.g, .slice y1.hi.num.a y1.hi.num.n y1.hi.num.c, .bool y1.hi.den.g, .slice y1.hi.den.a y1.hi.den.n y1.hi.den.c] 41)))
    clear hb ow1 ar1 p0 p1 p2 p3 p4 p5 p6 p7
    have p0_0 := (unhide VX0).c0
    have p0_1 := (unhide VX0).c1
    have p0_2 := (unhide VX0).c2
    have p0_3 := (unhide VX0).c3
    have p0_4 := (unhide VX0).c4
    have p0_5 := (unhide VX0).c5
    have p0_6 := (unhide VX0).c6
    have p0_7 := (unhide VX0).c7
    go_wp2_with fail
    refine (unhide CI y0 y1 _ (unhide AX0) (unhide AX1)).mono ?_
    rintro e w5 ⟨vg, dg, okg, rfl, hb, hown, hu⟩
    obtain ⟨e1, e2⟩ := unhide US _ _ _ _ (unhide UR) hu
    subst e1 e2
    have VG := hide (VarS.start 41 (hown.wide (lo' := wx1.heap.size + 1) (by simp) (Nat.le_refl _)))
    have sg : wx1.heap.size + 1 ≤ w5.heap.size := by have := hb.size; simp at this; omega
    have en0 : vg.lo.num.n = vr.lo.num.n := by rw [← ((unhide VG).own.own (vg.lo.num, dr.lo.num) (by simp)).len, ← ((unhide V0).own.own (vr.lo.num, dr.lo.num) (by simp)).len]
    have q0 : vg.lo.num.n ≤ 40 := by omega
    have qm0 : vg.lo.num.n ≤ maxLen := by omega
    have ql0 : vg.lo.num.n ≤ 1048576 := by omega
    have en1 : vg.lo.den.n = vr.lo.den.n := by rw [← ((unhide VG).own.own (vg.lo.den, dr.lo.den) (by simp)).len, ← ((unhide V0).own.own (vr.lo.den, dr.lo.den) (by simp)).len]
    have q1 : vg.lo.den.n ≤ 40 := by omega
    have qm1 : vg.lo.den.n ≤ maxLen := by omega
    have ql1 : vg.lo.den.n ≤ 1048576 := by omega
    have en2 : vg.hi.num.n = vr.hi.num.n := by rw [← ((unhide VG).own.own (vg.hi.num, dr.hi.num) (by simp)).len, ← ((unhide V0).own.own (vr.hi.num, dr.hi.num) (by simp)).len]
    have q2 : vg.hi.num.n ≤ 40 := by omega
    have qm2 : vg.hi.num.n ≤ maxLen := by omega
    have ql2 : vg.hi.num.n ≤ 1048576 := by omega
    have en3 : vg.hi.den.n = vr.hi.den.n := by rw [← ((unhide VG).own.own (vg.hi.den, dr.hi.den) (by simp)).len, ← ((unhide V0).own.own (vr.hi.den, dr.hi.den) (by simp)).len]
    have q3 : vg.hi.den.n ≤ 40 := by omega
    have qm3 : vg.hi.den.n ≤ maxLen := by omega
    have ql3 : vg.hi.den.n ≤ 1048576 := by omega
    clear AX0 AX1 p0_0 p0_1 p0_2 p0_3 p0_4 p0_5 p0_6 p0_7
    replace V0 := hide ((unhide V0).later hb)
    replace T := hide ((unhide T).later hb)
    replace VX0 := hide ((unhide VX0).later hb)
    replace VX1 := hide ((unhide VX1).later hb)
    clear hb hown hu
    replace V0 := hide ((unhide V0).later ((Below.refl _ _).alloc (Nat.le_refl _) (.cells #[.bool vg.lo.num.g, .slice vg.lo.num.a vg.lo.num.n vg.lo.num.c, .bool vg.lo.den.g, .slice vg.lo.den.a vg.lo.den.n vg.lo.den.c, .bool vg.hi.num.g, .slice vg.hi.num.a vg.hi.num.n vg.hi.num.c, .bool vg.hi.den.g, .slice vg.hi.den.a vg.hi.den.n vg.hi.den.c] 41)))
    replace T := hide ((unhide T).later ((Below.refl _ _).alloc (Nat.le_refl _) (.cells #[.bool vg.lo.num.g, .slice vg.lo.num.a vg.lo.num.n vg.lo.num.c, .bool vg.lo.den.g, .slice vg.lo.den.a vg.lo.den.n vg.lo.den.c, .bool vg.hi.num.g, .slice vg.hi.num.a vg.hi.num.n vg.hi.num.c, .bool vg.hi.den.g, .slice vg.hi.den.a vg.hi.den.n vg.hi.den.c] 41)))
    replace VX0 := hide ((unhide VX0).later ((Below.refl _ _).alloc (Nat.le_refl _) (.cells #[.bool vg.lo.num.g, .slice vg.lo.num.a vg.lo.num.n vg.lo.num.c, .bool vg.lo.den.g, .slice vg.lo.den.a vg.lo.den.n vg.lo.den.c, .bool vg.hi.num.g, .slice vg.hi.num.a vg.hi.num.n vg.hi.num.c, .bool vg.hi.den.g, .slice vg.hi.den.a vg.hi.den.n vg.hi.den.c] 41)))
    replace VX1 := hide ((unhide VX1).later ((Below.refl _ _).alloc (Nat.le_refl _) (.cells #[.bool vg.lo.num.g, .slice vg.lo.num.a vg.lo.num.n vg.lo.num.c, .bool vg.lo.den.g, .slice vg.lo.den.a vg.lo.den.n vg.lo.den.c, .bool vg.hi.num.g, .slice vg.hi.num.a vg.hi.num.n vg.hi.num.c, .bool vg.hi.den.g, .slice vg.hi.den.a vg.hi.den.n vg.hi.den.c] 41)))
    have enh0 := hide en0
    clear en0
    have enh1 := hide en1
    clear en1
    have enh2 := hide en2
    clear en2
    have enh3 := hide en3
    clear en3
    have p0 := (unhide V0).c0
    have p1 := (unhide V0).c1
    have p2 := (unhide V0).c2
    have p3 := (unhide V0).c3
    have p4 := (unhide V0).c4
    have p5 := (unhide V0).c5
    have p6 := (unhide V0).c6
    have p7 := (unhide V0).c7
    go_wp2_with fail
    refine (eqS_at vg vr dr _ (unhide VG).own.sl (unhide V0).own.sl qm0 qm1 qm2 qm3).mono ?_
    rintro e w6 ⟨rfl, hb⟩
    clear p0 p1 p2 p3 p4 p5 p6 p7
    replace V0 := hide ((unhide V0).later hb)
    replace T := hide ((unhide T).later hb)
    replace VX0 := hide ((unhide VX0).later hb)
    replace VX1 := hide ((unhide VX1).later hb)
    replace VG := hide ((unhide VG).later hb)
    clear hb
    generalize wx0.heap.size = GX0 at *
    generalize wx1.heap.size = GX1 at *
    generalize w5.heap.size = GG at *
    generalize wc.heap.size = GC at *
    go_wp2_with fail
    have ka0 := (unhide T).x0_0
    have kx0 := (unhide VX0).c0
    have ka1 := (unhide T).x0_1
    have kx1 := (unhide VX0).c1
    have ka2 := (unhide T).x0_2
    have kx2 := (unhide VX0).c2
    have ka3 := (unhide T).x0_3
    have kx3 := (unhide VX0).c3
    have ka4 := (unhide T).x0_4
    have kx4 := (unhide VX0).c4
    have ka5 := (unhide T).x0_5
    have kx5 := (unhide VX0).c5
    have ka6 := (unhide T).x0_6
    have kx6 := (unhide VX0).c6
    have ka7 := (unhide T).x0_7
    have kx7 := (unhide VX0).c7
    go_region_held3 (fun w' => w'.cell? ⟨w.heap.size, 0, none⟩ = some (.bool v0.lo.num.g) ∧ w'.cell? ⟨w.heap.size, 1, none⟩ = some (.slice v0.lo.num.a v0.lo.num.n v0.lo.num.c) ∧ w'.cell? ⟨w.heap.size, 2, none⟩ = some (.bool v0.lo.den.g) ∧ w'.cell? ⟨w.heap.size, 3, none⟩ = some (.slice v0.lo.den.a v0.lo.den.n v0.lo.den.c) ∧ w'.cell? ⟨w.heap.size, 4, none⟩ = some (.bool v0.hi.num.g) ∧ w'.cell? ⟨w.heap.size, 5, none⟩ = some (.slice v0.hi.num.a v0.hi.num.n v0.hi.num.c) ∧ w'.cell? ⟨w.heap.size, 6, none⟩ = some (.bool v0.hi.den.g) ∧ w'.cell? ⟨w.heap.size, 7, none⟩ = some (.slice v0.hi.den.a v0.hi.den.n v0.hi.den.c) ∧ w'.cell? ⟨GX0, 0, none⟩ = some (.bool y0.lo.num.g) ∧ w'.cell? ⟨GX0, 1, none⟩ = some (.slice y0.lo.num.a y0.lo.num.n y0.lo.num.c) ∧ w'.cell? ⟨GX0, 2, none⟩ = some (.bool y0.lo.den.g) ∧ w'.cell? ⟨GX0, 3, none⟩ = some (.slice y0.lo.den.a y0.lo.den.n y0.lo.den.c) ∧ w'.cell? ⟨GX0, 4, none⟩ = some (.bool y0.hi.num.g) ∧ w'.cell? ⟨GX0, 5, none⟩ = some (.slice y0.hi.num.a y0.hi.num.n y0.hi.num.c) ∧ w'.cell? ⟨GX0, 6, none⟩ = some (.bool y0.hi.den.g) ∧ w'.cell? ⟨GX0, 7, none⟩ = some (.slice y0.hi.den.a y0.hi.den.n y0.hi.den.c)) (with_reducible (first | exact ⟨ka0, ka1, ka2, ka3, ka4, ka5, ka6, ka7, kx0, kx1, kx2, kx3, kx4, kx5, kx6, kx7⟩ | exact ⟨cd_other ka0, cd_other ka1, cd_other ka2, cd_other ka3, cd_other ka4, cd_other ka5, cd_other ka6, cd_other ka7, cd_other kx0, cd_other kx1, cd_other kx2, cd_other kx3, cd_other kx4, cd_other kx5, cd_other kx6, cd_other kx7⟩ | fail))
      (first
      | (go_at_call 36; refine (toS_at v0 d0 _ ?_ l0 l1 l2 l3).mono ?_; exact (unhide T).s0.later (Below.refl _ _).drew; rintro e w7 ⟨u7, rfl, hb', hn7, ow7, ar7⟩; have hb := below_of_drew hb'; replace V0 := hide ((unhide V0).later hb); replace T := hide ((unhide T).later hb); replace VX0 := hide ((unhide VX0).later hb); replace VX1 := hide ((unhide VX1).later hb); replace VG := hide ((unhide VG).later hb); replace ka0 := (unhide T).x0_0; replace kx0 := (unhide VX0).c0; replace ka1 := (unhide T).x0_1; replace kx1 := (unhide VX0).c1; replace ka2 := (unhide T).x0_2; replace kx2 := (unhide VX0).c2; replace ka3 := (unhide T).x0_3; replace kx3 := (unhide VX0).c3; replace ka4 := (unhide T).x0_4; replace kx4 := (unhide VX0).c4; replace ka5 := (unhide T).x0_5; replace kx5 := (unhide VX0).c5; replace ka6 := (unhide T).x0_6; replace kx6 := (unhide VX0).c6; replace ka7 := (unhide T).x0_7; replace kx7 := (unhide VX0).c7; have S7 := hide ow7.sl; clear hb hb' ow7 ar7 hn7)
      | (go_at_call 38; refine (eqS_at y0 u7 d0 _ (unhide VX0).own.sl (unhide S7) (by rw [(unhide hn0).1]; exact lm0) (by rw [(unhide hn0).2.1]; exact lm1) (by rw [(unhide hn0).2.2.1]; exact lm2) (by rw [(unhide hn0).2.2.2]; exact lm3)).mono ?_; rintro e w8 ⟨rfl, hb⟩; replace V0 := hide ((unhide V0).later hb); replace T := hide ((unhide T).later hb); replace VX0 := hide ((unhide VX0).later hb); replace VX1 := hide ((unhide VX1).later hb); replace VG := hide ((unhide VG).later hb); replace ka0 := (unhide T).x0_0; replace kx0 := (unhide VX0).c0; replace ka1 := (unhide T).x0_1; replace kx1 := (unhide VX0).c1; replace ka2 := (unhide T).x0_2; replace kx2 := (unhide VX0).c2; replace ka3 := (unhide T).x0_3; replace kx3 := (unhide VX0).c3; replace ka4 := (unhide T).x0_4; replace kx4 := (unhide VX0).c4; replace ka5 := (unhide T).x0_5; replace kx5 := (unhide VX0).c5; replace ka6 := (unhide T).x0_6; replace kx6 := (unhide VX0).c6; replace ka7 := (unhide T).x0_7; replace kx7 := (unhide VX0).c7; clear hb))
    clear S7 ka0 kx0 ka1 kx1 ka2 kx2 ka3 kx3 ka4 kx4 ka5 kx5 ka6 kx6 ka7 kx7
    go_wp2_with fail
    have ka0 := (unhide T).x1_0
    have kx0 := (unhide VX1).c0
    have ka1 := (unhide T).x1_1
    have kx1 := (unhide VX1).c1
    have ka2 := (unhide T).x1_2
    have kx2 := (unhide VX1).c2
    have ka3 := (unhide T).x1_3
    have kx3 := (unhide VX1).c3
    have ka4 := (unhide T).x1_4
    have kx4 := (unhide VX1).c4
    have ka5 := (unhide T).x1_5
    have kx5 := (unhide VX1).c5
    have ka6 := (unhide T).x1_6
    have kx6 := (unhide VX1).c6
    have ka7 := (unhide T).x1_7
    have kx7 := (unhide VX1).c7
    go_region_held3 (fun w' => w'.cell? ⟨w.heap.size + 1, 0, none⟩ = some (.bool v1.lo.num.g) ∧ w'.cell? ⟨w.heap.size + 1, 1, none⟩ = some (.slice v1.lo.num.a v1.lo.num.n v1.lo.num.c) ∧ w'.cell? ⟨w.heap.size + 1, 2, none⟩ = some (.bool v1.lo.den.g) ∧ w'.cell? ⟨w.heap.size + 1, 3, none⟩ = some (.slice v1.lo.den.a v1.lo.den.n v1.lo.den.c) ∧ w'.cell? ⟨w.heap.size + 1, 4, none⟩ = some (.bool v1.hi.num.g) ∧ w'.cell? ⟨w.heap.size + 1, 5, none⟩ = some (.slice v1.hi.num.a v1.hi.num.n v1.hi.num.c) ∧ w'.cell? ⟨w.heap.size + 1, 6, none⟩ = some (.bool v1.hi.den.g) ∧ w'.cell? ⟨w.heap.size + 1, 7, none⟩ = some (.slice v1.hi.den.a v1.hi.den.n v1.hi.den.c) ∧ w'.cell? ⟨GX1, 0, none⟩ = some (.bool y1.lo.num.g) ∧ w'.cell? ⟨GX1, 1, none⟩ = some (.slice y1.lo.num.a y1.lo.num.n y1.lo.num.c) ∧ w'.cell? ⟨GX1, 2, none⟩ = some (.bool y1.lo.den.g) ∧ w'.cell? ⟨GX1, 3, none⟩ = some (.slice y1.lo.den.a y1.lo.den.n y1.lo.den.c) ∧ w'.cell? ⟨GX1, 4, none⟩ = some (.bool y1.hi.num.g) ∧ w'.cell? ⟨GX1, 5, none⟩ = some (.slice y1.hi.num.a y1.hi.num.n y1.hi.num.c) ∧ w'.cell? ⟨GX1, 6, none⟩ = some (.bool y1.hi.den.g) ∧ w'.cell? ⟨GX1, 7, none⟩ = some (.slice y1.hi.den.a y1.hi.den.n y1.hi.den.c)) (with_reducible (first | exact ⟨ka0, ka1, ka2, ka3, ka4, ka5, ka6, ka7, kx0, kx1, kx2, kx3, kx4, kx5, kx6, kx7⟩ | exact ⟨cd_other ka0, cd_other ka1, cd_other ka2, cd_other ka3, cd_other ka4, cd_other ka5, cd_other ka6, cd_other ka7, cd_other kx0, cd_other kx1, cd_other kx2, cd_other kx3, cd_other kx4, cd_other kx5, cd_other kx6, cd_other kx7⟩ | fail))
      (first
      | (go_at_call 36; refine (toS_at v1 d1 _ ?_ l4 l5 l6 l7).mono ?_; exact (unhide T).s1.later (Below.refl _ _).drew; rintro e w7 ⟨u7, rfl, hb', hn7, ow7, ar7⟩; have hb := below_of_drew hb'; replace V0 := hide ((unhide V0).later hb); replace T := hide ((unhide T).later hb); replace VX0 := hide ((unhide VX0).later hb); replace VX1 := hide ((unhide VX1).later hb); replace VG := hide ((unhide VG).later hb); replace ka0 := (unhide T).x1_0; replace kx0 := (unhide VX1).c0; replace ka1 := (unhide T).x1_1; replace kx1 := (unhide VX1).c1; replace ka2 := (unhide T).x1_2; replace kx2 := (unhide VX1).c2; replace ka3 := (unhide T).x1_3; replace kx3 := (unhide VX1).c3; replace ka4 := (unhide T).x1_4; replace kx4 := (unhide VX1).c4; replace ka5 := (unhide T).x1_5; replace kx5 := (unhide VX1).c5; replace ka6 := (unhide T).x1_6; replace kx6 := (unhide VX1).c6; replace ka7 := (unhide T).x1_7; replace kx7 := (unhide VX1).c7; have S7 := hide ow7.sl; clear hb hb' ow7 ar7 hn7)
      | (go_at_call 38; refine (eqS_at y1 u7 d1 _ (unhide VX1).own.sl (unhide S7) (by rw [(unhide hn1).1]; exact lm4) (by rw [(unhide hn1).2.1]; exact lm5) (by rw [(unhide hn1).2.2.1]; exact lm6) (by rw [(unhide hn1).2.2.2]; exact lm7)).mono ?_; rintro e w8 ⟨rfl, hb⟩; replace V0 := hide ((unhide V0).later hb); replace T := hide ((unhide T).later hb); replace VX0 := hide ((unhide VX0).later hb); replace VX1 := hide ((unhide VX1).later hb); replace VG := hide ((unhide VG).later hb); replace ka0 := (unhide T).x1_0; replace kx0 := (unhide VX1).c0; replace ka1 := (unhide T).x1_1; replace kx1 := (unhide VX1).c1; replace ka2 := (unhide T).x1_2; replace kx2 := (unhide VX1).c2; replace ka3 := (unhide T).x1_3; replace kx3 := (unhide VX1).c3; replace ka4 := (unhide T).x1_4; replace kx4 := (unhide VX1).c4; replace ka5 := (unhide T).x1_5; replace kx5 := (unhide VX1).c5; replace ka6 := (unhide T).x1_6; replace kx6 := (unhide VX1).c6; replace ka7 := (unhide T).x1_7; replace kx7 := (unhide VX1).c7; clear hb))
    clear S7 ka0 kx0 ka1 kx1 ka2 kx2 ka3 kx3 ka4 kx4 ka5 kx5 ka6 kx6 ka7 kx7
    have p0 := (unhide VX0).c0
    have p1 := (unhide VX0).c1
    have p2 := (unhide VX0).c2
    have p3 := (unhide VX0).c3
    have p4 := (unhide VX0).c4
    have p5 := (unhide VX0).c5
    have p6 := (unhide VX0).c6
    have p7 := (unhide VX0).c7
    have hl0 : y0.lo.num.n ≤ 1048576 := by rw [(unhide hn0).1]; exact l0
    have hl1 : y0.lo.den.n ≤ 1048576 := by rw [(unhide hn0).2.1]; exact l1
    have hl2 : y0.hi.num.n ≤ 1048576 := by rw [(unhide hn0).2.2.1]; exact l2
    have hl3 : y0.hi.den.n ≤ 1048576 := by rw [(unhide hn0).2.2.2]; exact l3
    go_wp2_with fail
    refine (markS_at y0 d0 [] [] 1 (GC) GX0 _ (unhide VX0).own hl0 hl1 hl2 hl3 (by have := (unhide VX0).gt; omega) (by omega) (by have := (unhide hn0).1; have := (unhide hn0).2.1; have := (unhide hn0).2.2.1; have := (unhide hn0).2.2.2; omega)).mono ?_
    rintro e w10 ⟨rfl, hbt, hmk⟩
    replace T := hide ((unhide T).but hbt (by omega) (unhide HX0) (unhide HX1))
    replace V0 := hide ((unhide V0).but hbt (by omega) (by omega))
    replace VX1 := hide ((unhide VX1).but hbt (by omega) (by omega))
    replace VG := hide ((unhide VG).but hbt (by omega) (by omega))
    clear VX0 p0 p1 p2 p3 p4 p5 p6 p7 hbt hmk hl0 hl1 hl2 hl3
    have p0 := (unhide VX1).c0
    have p1 := (unhide VX1).c1
    have p2 := (unhide VX1).c2
    have p3 := (unhide VX1).c3
    have p4 := (unhide VX1).c4
    have p5 := (unhide VX1).c5
    have p6 := (unhide VX1).c6
    have p7 := (unhide VX1).c7
    have hl0 : y1.lo.num.n ≤ 1048576 := by rw [(unhide hn1).1]; exact l4
    have hl1 : y1.lo.den.n ≤ 1048576 := by rw [(unhide hn1).2.1]; exact l5
    have hl2 : y1.hi.num.n ≤ 1048576 := by rw [(unhide hn1).2.2.1]; exact l6
    have hl3 : y1.hi.den.n ≤ 1048576 := by rw [(unhide hn1).2.2.2]; exact l7
    go_wp2_with fail
    refine (markS_at y1 d1 [] [] _ (GX0 + 1) GX1 _ (unhide VX1).own hl0 hl1 hl2 hl3 (by have := (unhide VX1).gt; omega) (by omega) (by have := (unhide hn0).1; have := (unhide hn0).2.1; have := (unhide hn0).2.2.1; have := (unhide hn0).2.2.2; have := (unhide hn1).1; have := (unhide hn1).2.1; have := (unhide hn1).2.2.1; have := (unhide hn1).2.2.2; omega)).mono ?_
    rintro e w11 ⟨rfl, hbt, hmk⟩
    replace T := hide ((unhide T).but hbt (by omega) (unhide HX0) (unhide HX1))
    replace V0 := hide ((unhide V0).but hbt (by omega) (by omega))
    replace VG := hide ((unhide VG).but hbt (by omega) (by omega))
    clear VX1 p0 p1 p2 p3 p4 p5 p6 p7 hbt hmk hl0 hl1 hl2 hl3
    have hk0 : decide ((1 : Int) + (y0.lo.num.n : Int) + (y0.lo.den.n : Int) + (y0.hi.num.n : Int) + (y0.hi.den.n : Int) + (y1.lo.num.n : Int) + (y1.lo.den.n : Int) + (y1.hi.num.n : Int) + (y1.hi.den.n : Int) < 0) = false := by simp; omega
    have p0 := (unhide VG).c0
    have pq0 := (unhide V0).c0
    have p1 := (unhide VG).c1
    have pq1 := (unhide V0).c1
    have p2 := (unhide VG).c2
    have pq2 := (unhide V0).c2
    have p3 := (unhide VG).c3
    have pq3 := (unhide V0).c3
    have p4 := (unhide VG).c4
    have pq4 := (unhide V0).c4
    have p5 := (unhide VG).c5
    have pq5 := (unhide V0).c5
    have p6 := (unhide VG).c6
    have pq6 := (unhide V0).c6
    have p7 := (unhide VG).c7
    have pq7 := (unhide V0).c7
    go_wp2_with fail
    refine (eqS_at vg vr dr _ (unhide VG).own.sl (unhide V0).own.sl qm0 qm1 qm2 qm3).mono ?_
    rintro e w20 ⟨rfl, hb⟩
    clear p0 pq0 p1 pq1 p2 pq2 p3 pq3 p4 pq4 p5 pq5 p6 pq6 p7 pq7 hk0
    replace V0 := hide ((unhide V0).later hb)
    replace T := hide ((unhide T).later hb)
    replace VG := hide ((unhide VG).later hb)
    clear hb
    have p0 := (unhide VG).c0
    have p1 := (unhide VG).c1
    have p2 := (unhide VG).c2
    have p3 := (unhide VG).c3
    have p4 := (unhide VG).c4
    have p5 := (unhide VG).c5
    have p6 := (unhide VG).c6
    have p7 := (unhide VG).c7
    go_wp2_with fail
    refine (markS_at vg dr [] [] 1 (GX1 + 1) GG _ (unhide VG).own ql0 ql1 ql2 ql3 (by have := (unhide VG).gt; omega) (by omega) (by omega)).mono ?_
    rintro e w21 ⟨rfl, hbt, hmk⟩
    replace T := hide ((unhide T).but hbt (by omega) (unhide HX0) (unhide HX1))
    replace V0 := hide ((unhide V0).but hbt (by omega) (by omega))
    replace VG := hide ((unhide VG).mark (d' := ⟨⟨⟨dr.lo.num.g, marks (1) vg.lo.num.n⟩, ⟨dr.lo.den.g, marks (1 + vg.lo.num.n) vg.lo.den.n⟩⟩, ⟨⟨dr.hi.num.g, marks (1 + vg.lo.num.n + vg.lo.den.n) vg.hi.num.n⟩, ⟨dr.hi.den.g, marks (1 + vg.lo.num.n + vg.lo.den.n + vg.hi.num.n) vg.hi.den.n⟩⟩⟩) hbt (by omega) hmk)
    clear p0 p1 p2 p3 p4 p5 p6 p7 hbt hmk
    have p0 := (unhide VG).c0
    have p1 := (unhide VG).c1
    have p2 := (unhide VG).c2
    have p3 := (unhide VG).c3
    have p4 := (unhide VG).c4
    have p5 := (unhide VG).c5
    have p6 := (unhide VG).c6
    have p7 := (unhide VG).c7
    go_wp2_with fail
    refine (heldS_at vg 1 _ ((unhide VG).own.sl (vg.lo.num, ⟨dr.lo.num.g, marks (1) vg.lo.num.n⟩) (by simp)).sl ((unhide VG).own.sl (vg.lo.den, ⟨dr.lo.den.g, marks (1 + (vg.lo.num.n : Int)) vg.lo.den.n⟩) (by simp)).sl ((unhide VG).own.sl (vg.hi.num, ⟨dr.hi.num.g, marks (1 + (vg.lo.num.n : Int) + (vg.lo.den.n : Int)) vg.hi.num.n⟩) (by simp)).sl ((unhide VG).own.sl (vg.hi.den, ⟨dr.hi.den.g, marks (1 + (vg.lo.num.n : Int) + (vg.lo.den.n : Int) + (vg.hi.num.n : Int)) vg.hi.den.n⟩) (by simp)).sl ql0 ql1 ql2 ql3 (by omega) (by omega)).mono ?_
    rintro e wk ⟨rfl, hb⟩
    replace V0 := hide ((unhide V0).later hb)
    replace T := hide ((unhide T).later hb)
    replace VG := hide ((unhide VG).later hb)
    have hr0 : ¬ ((1 : Int) + (vg.lo.num.n : Int) + (vg.lo.den.n : Int) + (vg.hi.num.n : Int) + (vg.hi.den.n : Int) < 0) := by omega
    have zk : w.heap.size + 2 ≤ wk.heap.size := by have h1 := (unhide VG).gt; omega
    clear p0 p1 p2 p3 p4 p5 p6 p7 hb
    go_upto_region 31 with fail
    go_cut [15, 16] (fun p q wx => ∃ (G : Nat) (v : SV) (d : SD) (ok : Bool), p = .pointer (some ⟨G, 0, none⟩) ∧ q = .bool ok ∧ Hid (MetS wk wx G v d) ∧ Hid (U d ok) ∧ Hid (TlawMulS w wx v0 d0 v1 d1))
    case first =>
      have ka0 := (unhide T).x0_0
      have ka1 := (unhide T).x0_1
      have ka2 := (unhide T).x0_2
      have ka3 := (unhide T).x0_3
      have ka4 := (unhide T).x0_4
      have ka5 := (unhide T).x0_5
      have ka6 := (unhide T).x0_6
      have ka7 := (unhide T).x0_7
      have ka8 := (unhide T).x1_0
      have ka9 := (unhide T).x1_1
      have ka10 := (unhide T).x1_2
      have ka11 := (unhide T).x1_3
      have ka12 := (unhide T).x1_4
      have ka13 := (unhide T).x1_5
      have ka14 := (unhide T).x1_6
      have ka15 := (unhide T).x1_7
      go_region_held3 (fun w' => w'.cell? ⟨w.heap.size, 0, none⟩ = some (.bool v0.lo.num.g) ∧ w'.cell? ⟨w.heap.size, 1, none⟩ = some (.slice v0.lo.num.a v0.lo.num.n v0.lo.num.c) ∧ w'.cell? ⟨w.heap.size, 2, none⟩ = some (.bool v0.lo.den.g) ∧ w'.cell? ⟨w.heap.size, 3, none⟩ = some (.slice v0.lo.den.a v0.lo.den.n v0.lo.den.c) ∧ w'.cell? ⟨w.heap.size, 4, none⟩ = some (.bool v0.hi.num.g) ∧ w'.cell? ⟨w.heap.size, 5, none⟩ = some (.slice v0.hi.num.a v0.hi.num.n v0.hi.num.c) ∧ w'.cell? ⟨w.heap.size, 6, none⟩ = some (.bool v0.hi.den.g) ∧ w'.cell? ⟨w.heap.size, 7, none⟩ = some (.slice v0.hi.den.a v0.hi.den.n v0.hi.den.c) ∧ w'.cell? ⟨w.heap.size + 1, 0, none⟩ = some (.bool v1.lo.num.g) ∧ w'.cell? ⟨w.heap.size + 1, 1, none⟩ = some (.slice v1.lo.num.a v1.lo.num.n v1.lo.num.c) ∧ w'.cell? ⟨w.heap.size + 1, 2, none⟩ = some (.bool v1.lo.den.g) ∧ w'.cell? ⟨w.heap.size + 1, 3, none⟩ = some (.slice v1.lo.den.a v1.lo.den.n v1.lo.den.c) ∧ w'.cell? ⟨w.heap.size + 1, 4, none⟩ = some (.bool v1.hi.num.g) ∧ w'.cell? ⟨w.heap.size + 1, 5, none⟩ = some (.slice v1.hi.num.a v1.hi.num.n v1.hi.num.c) ∧ w'.cell? ⟨w.heap.size + 1, 6, none⟩ = some (.bool v1.hi.den.g) ∧ w'.cell? ⟨w.heap.size + 1, 7, none⟩ = some (.slice v1.hi.den.a v1.hi.den.n v1.hi.den.c)) (with_reducible (first | exact ⟨ka0, ka1, ka2, ka3, ka4, ka5, ka6, ka7, ka8, ka9, ka10, ka11, ka12, ka13, ka14, ka15⟩ | exact ⟨cd_other ka0, cd_other ka1, cd_other ka2, cd_other ka3, cd_other ka4, cd_other ka5, cd_other ka6, cd_other ka7, cd_other ka8, cd_other ka9, cd_other ka10, cd_other ka11, cd_other ka12, cd_other ka13, cd_other ka14, cd_other ka15⟩ | exact ⟨ca_other ka0, ca_other ka1, ca_other ka2, ca_other ka3, ca_other ka4, ca_other ka5, ca_other ka6, ca_other ka7, ca_other ka8, ca_other ka9, ca_other ka10, ca_other ka11, ca_other ka12, ca_other ka13, ca_other ka14, ca_other ka15⟩ | exact ⟨cd_other (ca_other ka0), cd_other (ca_other ka1), cd_other (ca_other ka2), cd_other (ca_other ka3), cd_other (ca_other ka4), cd_other (ca_other ka5), cd_other (ca_other ka6), cd_other (ca_other ka7), cd_other (ca_other ka8), cd_other (ca_other ka9), cd_other (ca_other ka10), cd_other (ca_other ka11), cd_other (ca_other ka12), cd_other (ca_other ka13), cd_other (ca_other ka14), cd_other (ca_other ka15)⟩ | exact ⟨cs_other (cs_other (cs_other (cs_other (cs_other (cs_other (cs_other (cs_other (ka0) (by omega)) (by omega)) (by omega)) (by omega)) (by omega)) (by omega)) (by omega)) (by omega), cs_other (cs_other (cs_other (cs_other (cs_other (cs_other (cs_other (cs_other (ka1) (by omega)) (by omega)) (by omega)) (by omega)) (by omega)) (by omega)) (by omega)) (by omega), cs_other (cs_other (cs_other (cs_other (cs_other (cs_other (cs_other (cs_other (ka2) (by omega)) (by omega)) (by omega)) (by omega)) (by omega)) (by omega)) (by omega)) (by omega), cs_other (cs_other (cs_other (cs_other (cs_other (cs_other (cs_other (cs_other (ka3) (by omega)) (by omega)) (by omega)) (by omega)) (by omega)) (by omega)) (by omega)) (by omega), cs_other (cs_other (cs_other (cs_other (cs_other (cs_other (cs_other (cs_other (ka4) (by omega)) (by omega)) (by omega)) (by omega)) (by omega)) (by omega)) (by omega)) (by omega), cs_other (cs_other (cs_other (cs_other (cs_other (cs_other (cs_other (cs_other (ka5) (by omega)) (by omega)) (by omega)) (by omega)) (by omega)) (by omega)) (by omega)) (by omega), cs_other (cs_other (cs_other (cs_other (cs_other (cs_other (cs_other (cs_other (ka6) (by omega)) (by omega)) (by omega)) (by omega)) (by omega)) (by omega)) (by omega)) (by omega), cs_other (cs_other (cs_other (cs_other (cs_other (cs_other (cs_other (cs_other (ka7) (by omega)) (by omega)) (by omega)) (by omega)) (by omega)) (by omega)) (by omega)) (by omega), cs_other (cs_other (cs_other (cs_other (cs_other (cs_other (cs_other (cs_other (ka8) (by omega)) (by omega)) (by omega)) (by omega)) (by omega)) (by omega)) (by omega)) (by omega), cs_other (cs_other (cs_other (cs_other (cs_other (cs_other (cs_other (cs_other (ka9) (by omega)) (by omega)) (by omega)) (by omega)) (by omega)) (by omega)) (by omega)) (by omega), cs_other (cs_other (cs_other (cs_other (cs_other (cs_other (cs_other (cs_other (ka10) (by omega)) (by omega)) (by omega)) (by omega)) (by omega)) (by omega)) (by omega)) (by omega), cs_other (cs_other (cs_other (cs_other (cs_other (cs_other (cs_other (cs_other (ka11) (by omega)) (by omega)) (by omega)) (by omega)) (by omega)) (by omega)) (by omega)) (by omega), cs_other (cs_other (cs_other (cs_other (cs_other (cs_other (cs_other (cs_other (ka12) (by omega)) (by omega)) (by omega)) (by omega)) (by omega)) (by omega)) (by omega)) (by omega), cs_other (cs_other (cs_other (cs_other (cs_other (cs_other (cs_other (cs_other (ka13) (by omega)) (by omega)) (by omega)) (by omega)) (by omega)) (by omega)) (by omega)) (by omega), cs_other (cs_other (cs_other (cs_other (cs_other (cs_other (cs_other (cs_other (ka14) (by omega)) (by omega)) (by omega)) (by omega)) (by omega)) (by omega)) (by omega)) (by omega), cs_other (cs_other (cs_other (cs_other (cs_other (cs_other (cs_other (cs_other (ka15) (by omega)) (by omega)) (by omega)) (by omega)) (by omega)) (by omega)) (by omega)) (by omega)⟩ | fail))
        (first
        | (go_at_call_of 36 (Value.agg #[Value.bool v0.lo.num.g, Value.slice v0.lo.num.a v0.lo.num.n v0.lo.num.c, Value.bool v0.lo.den.g, Value.slice v0.lo.den.a v0.lo.den.n v0.lo.den.c, Value.bool v0.hi.num.g, Value.slice v0.hi.num.a v0.hi.num.n v0.hi.num.c, Value.bool v0.hi.den.g, Value.slice v0.hi.den.a v0.hi.den.n v0.hi.den.c]); refine (toS_at v0 d0 _ ?_ l0 l1 l2 l3).mono ?_; (first | exact (unhide T).s0.later (Below.refl _ _).drew | exact (unhide T).s0.later ((Below.refl _ _).alloc (Nat.le_refl _) _).drew); rintro e wa0 ⟨qa0, rfl, hb, hna0, ow, ar⟩; have hbx : Below wk.heap.size wk wa0 := (by first | exact below_of_drew hb | exact bad hb); have sz0 := hbx.size; replace T := hide ((unhide T).later hbx); replace ka0 := (unhide T).x0_0; replace ka1 := (unhide T).x0_1; replace ka2 := (unhide T).x0_2; replace ka3 := (unhide T).x0_3; replace ka4 := (unhide T).x0_4; replace ka5 := (unhide T).x0_5; replace ka6 := (unhide T).x0_6; replace ka7 := (unhide T).x0_7; replace ka8 := (unhide T).x1_0; replace ka9 := (unhide T).x1_1; replace ka10 := (unhide T).x1_2; replace ka11 := (unhide T).x1_3; replace ka12 := (unhide T).x1_4; replace ka13 := (unhide T).x1_5; replace ka14 := (unhide T).x1_6; replace ka15 := (unhide T).x1_7; (try (replace gf := fun o => frozen_later hbx (World.block_lt_of_cell? _ _ g0) (gf o); replace g0 := cell_later hbx g0; replace g1 := cell_later hbx g1; replace g2 := cell_later hbx g2; replace g3 := cell_later hbx g3; replace g4 := cell_later hbx g4; replace g5 := cell_later hbx g5; replace g6 := cell_later hbx g6; replace g7 := cell_later hbx g7)); (try (refine cutP (p := wa0.cell? ⟨wk.heap.size, 0, none⟩ = some (.bool false) ∧ wa0.cell? ⟨wk.heap.size, 1, none⟩ = some (.slice none 0 0) ∧ wa0.cell? ⟨wk.heap.size, 2, none⟩ = some (.bool false) ∧ wa0.cell? ⟨wk.heap.size, 3, none⟩ = some (.slice none 0 0) ∧ wa0.cell? ⟨wk.heap.size, 4, none⟩ = some (.bool false) ∧ wa0.cell? ⟨wk.heap.size, 5, none⟩ = some (.slice none 0 0) ∧ wa0.cell? ⟨wk.heap.size, 6, none⟩ = some (.bool false) ∧ wa0.cell? ⟨wk.heap.size, 7, none⟩ = some (.slice none 0 0) ∧ ∀ o, wa0.frozen? ⟨wk.heap.size, o, none⟩ = false) ?_ (fun dd => ?_); (focus (refine ⟨cell_later hb ?_, cell_later hb ?_, cell_later hb ?_, cell_later hb ?_, cell_later hb ?_, cell_later hb ?_, cell_later hb ?_, cell_later hb ?_, fun o => frozen_later hb ?_ ?_⟩ <;> (simp [go_sem]; done))); obtain ⟨g0, g1, g2, g3, g4, g5, g6, g7, gf⟩ := dd)); have zz0 := hb.size; (try simp at zz0); have HBr := hide hbx; have A0 := hide ar; clear hb hbx ow ar hna0)
        | (go_at_call_of 36 (Value.agg #[Value.bool v1.lo.num.g, Value.slice v1.lo.num.a v1.lo.num.n v1.lo.num.c, Value.bool v1.lo.den.g, Value.slice v1.lo.den.a v1.lo.den.n v1.lo.den.c, Value.bool v1.hi.num.g, Value.slice v1.hi.num.a v1.hi.num.n v1.hi.num.c, Value.bool v1.hi.den.g, Value.slice v1.hi.den.a v1.hi.den.n v1.hi.den.c]); refine (toS_at v1 d1 _ ?_ l4 l5 l6 l7).mono ?_; (first | exact (unhide T).s1 | exact (unhide T).s1.later ((Below.refl _ _).alloc (Nat.le_refl _) _)); rintro e wa1 ⟨qa1, rfl, hb, hna1, ow, ar⟩; have hbx : Below wa0.heap.size wa0 wa1 := (by first | exact hb | exact ba hb); have sz1 := hbx.size; replace T := hide ((unhide T).later hbx); replace ka0 := (unhide T).x0_0; replace ka1 := (unhide T).x0_1; replace ka2 := (unhide T).x0_2; replace ka3 := (unhide T).x0_3; replace ka4 := (unhide T).x0_4; replace ka5 := (unhide T).x0_5; replace ka6 := (unhide T).x0_6; replace ka7 := (unhide T).x0_7; replace ka8 := (unhide T).x1_0; replace ka9 := (unhide T).x1_1; replace ka10 := (unhide T).x1_2; replace ka11 := (unhide T).x1_3; replace ka12 := (unhide T).x1_4; replace ka13 := (unhide T).x1_5; replace ka14 := (unhide T).x1_6; replace ka15 := (unhide T).x1_7; replace A0 := hide ((unhide A0).later hbx); (try (replace gf := fun o => frozen_later hbx (World.block_lt_of_cell? _ _ g0) (gf o); replace g0 := cell_later hbx g0; replace g1 := cell_later hbx g1; replace g2 := cell_later hbx g2; replace g3 := cell_later hbx g3; replace g4 := cell_later hbx g4; replace g5 := cell_later hbx g5; replace g6 := cell_later hbx g6; replace g7 := cell_later hbx g7)); (try (refine cutP (p := wa1.cell? ⟨wa0.heap.size, 0, none⟩ = some (.bool false) ∧ wa1.cell? ⟨wa0.heap.size, 1, none⟩ = some (.slice none 0 0) ∧ wa1.cell? ⟨wa0.heap.size, 2, none⟩ = some (.bool false) ∧ wa1.cell? ⟨wa0.heap.size, 3, none⟩ = some (.slice none 0 0) ∧ wa1.cell? ⟨wa0.heap.size, 4, none⟩ = some (.bool false) ∧ wa1.cell? ⟨wa0.heap.size, 5, none⟩ = some (.slice none 0 0) ∧ wa1.cell? ⟨wa0.heap.size, 6, none⟩ = some (.bool false) ∧ wa1.cell? ⟨wa0.heap.size, 7, none⟩ = some (.slice none 0 0) ∧ ∀ o, wa1.frozen? ⟨wa0.heap.size, o, none⟩ = false) ?_ (fun dd => ?_); (focus (refine ⟨cell_later hb ?_, cell_later hb ?_, cell_later hb ?_, cell_later hb ?_, cell_later hb ?_, cell_later hb ?_, cell_later hb ?_, cell_later hb ?_, fun o => frozen_later hb ?_ ?_⟩ <;> (simp [go_sem]; done))); obtain ⟨g0, g1, g2, g3, g4, g5, g6, g7, gf⟩ := dd)); have zz1 := hb.size; (try simp at zz1); have HBr := hide (below_on (unhide HBr) hbx); have A1 := hide ar; clear hb hbx ow ar hna1)
        | (go_at_call 44; refine (unhide CI _ _ _ ?_ ?_).mono ?_; (first | exact unhide A0 | exact (unhide A0).later ((Below.refl _ _).alloc (Nat.le_refl _) _)); (first | exact unhide A1 | exact (unhide A1).later ((Below.refl _ _).alloc (Nat.le_refl _) _)); rintro e w5 ⟨vr, dr, okr, rfl, hb, hown, hu⟩; have hbx : Below wa1.heap.size wa1 w5 := (by first | exact hb | exact ba hb); have sz2 := hbx.size; replace T := hide ((unhide T).later hbx); replace ka0 := (unhide T).x0_0; replace ka1 := (unhide T).x0_1; replace ka2 := (unhide T).x0_2; replace ka3 := (unhide T).x0_3; replace ka4 := (unhide T).x0_4; replace ka5 := (unhide T).x0_5; replace ka6 := (unhide T).x0_6; replace ka7 := (unhide T).x0_7; replace ka8 := (unhide T).x1_0; replace ka9 := (unhide T).x1_1; replace ka10 := (unhide T).x1_2; replace ka11 := (unhide T).x1_3; replace ka12 := (unhide T).x1_4; replace ka13 := (unhide T).x1_5; replace ka14 := (unhide T).x1_6; replace ka15 := (unhide T).x1_7; replace A0 := hide ((unhide A0).later hbx); replace A1 := hide ((unhide A1).later hbx); (try (replace gf := fun o => frozen_later hbx (World.block_lt_of_cell? _ _ g0) (gf o); replace g0 := cell_later hbx g0; replace g1 := cell_later hbx g1; replace g2 := cell_later hbx g2; replace g3 := cell_later hbx g3; replace g4 := cell_later hbx g4; replace g5 := cell_later hbx g5; replace g6 := cell_later hbx g6; replace g7 := cell_later hbx g7)); (try (refine cutP (p := w5.cell? ⟨wa1.heap.size, 0, none⟩ = some (.bool false) ∧ w5.cell? ⟨wa1.heap.size, 1, none⟩ = some (.slice none 0 0) ∧ w5.cell? ⟨wa1.heap.size, 2, none⟩ = some (.bool false) ∧ w5.cell? ⟨wa1.heap.size, 3, none⟩ = some (.slice none 0 0) ∧ w5.cell? ⟨wa1.heap.size, 4, none⟩ = some (.bool false) ∧ w5.cell? ⟨wa1.heap.size, 5, none⟩ = some (.slice none 0 0) ∧ w5.cell? ⟨wa1.heap.size, 6, none⟩ = some (.bool false) ∧ w5.cell? ⟨wa1.heap.size, 7, none⟩ = some (.slice none 0 0) ∧ ∀ o, w5.frozen? ⟨wa1.heap.size, o, none⟩ = false) ?_ (fun dd => ?_); (focus (refine ⟨cell_later hb ?_, cell_later hb ?_, cell_later hb ?_, cell_later hb ?_, cell_later hb ?_, cell_later hb ?_, cell_later hb ?_, cell_later hb ?_, fun o => frozen_later hb ?_ ?_⟩ <;> (simp [go_sem]; done))); obtain ⟨g0, g1, g2, g3, g4, g5, g6, g7, gf⟩ := dd)); have zz2 := hb.size; (try simp at zz2); have HBr := hide (below_on (unhide HBr) hbx); have O5 := hide hown; have U5 := hide hu; clear hb hbx hown hu))
      all_goals go_wp2_with fail
      all_goals go_meet
      all_goals first
        | (with_reducible refine ⟨_, vr, dr, okr, rfl, rfl, hide (metS_alloc 41 (unhide HBr) (unhide O5) ?_), U5, hide ((unhide T).later ((Below.refl _ _).alloc (Nat.le_refl _) _))⟩; omega)
        | (with_reducible refine ⟨_, vr, dr, okr, rfl, rfl, hide (metS_set (unhide HBr) (unhide O5) ?_ ?_ g0 g1 g2 g3 g4 g5 g6 g7), U5, hide ((unhide T).but metS_but ?_ (unhide HX0) (unhide HX1))⟩ <;> first | omega | (simp; done) | (simp; omega))
    case rest =>
      obtain ⟨GH, vh, dh, okh, rfl, rfl, HM, UH, T9⟩ := hcut
      obtain ⟨e1, e2⟩ := unhide US _ _ _ _ (unhide UR) (unhide UH)
      subst e1 e2
      have VH := hide (unhide HM).var
      replace V0 := hide ((unhide V0).later (unhide HM).bel)
      replace VG := hide ((unhide VG).later (unhide HM).bel)
      clear HM
      clear T
      have T := T9
      clear T9
      have hm0 : vh.lo.num.n ≤ maxLen := by rw [← ((unhide VH).own.own (vh.lo.num, dr.lo.num) (by simp)).len, ((unhide V0).own.own (vr.lo.num, dr.lo.num) (by simp)).len]; exact rm0
      have hm1 : vh.lo.den.n ≤ maxLen := by rw [← ((unhide VH).own.own (vh.lo.den, dr.lo.den) (by simp)).len, ((unhide V0).own.own (vr.lo.den, dr.lo.den) (by simp)).len]; exact rm1
      have hm2 : vh.hi.num.n ≤ maxLen := by rw [← ((unhide VH).own.own (vh.hi.num, dr.hi.num) (by simp)).len, ((unhide V0).own.own (vr.hi.num, dr.hi.num) (by simp)).len]; exact rm2
      have hm3 : vh.hi.den.n ≤ maxLen := by rw [← ((unhide VH).own.own (vh.hi.den, dr.hi.den) (by simp)).len, ((unhide V0).own.own (vr.hi.den, dr.hi.den) (by simp)).len]; exact rm3
      have p0 := (unhide VH).c0
      have pq0 := (unhide V0).c0
      have p1 := (unhide VH).c1
      have pq1 := (unhide V0).c1
      have p2 := (unhide VH).c2
      have pq2 := (unhide V0).c2
      have p3 := (unhide VH).c3
      have pq3 := (unhide V0).c3
      have p4 := (unhide VH).c4
      have pq4 := (unhide V0).c4
      have p5 := (unhide VH).c5
      have pq5 := (unhide V0).c5
      have p6 := (unhide VH).c6
      have pq6 := (unhide V0).c6
      have p7 := (unhide VH).c7
      have pq7 := (unhide V0).c7
      go_wp2_with fail
      refine (eqS_at vh vr dr _ (unhide VH).own.sl (unhide V0).own.sl hm0 hm1 hm2 hm3).mono ?_
      rintro e w30 ⟨rfl, hb⟩
      clear p0 pq0 p1 pq1 p2 pq2 p3 pq3 p4 pq4 p5 pq5 p6 pq6 p7 pq7
      replace T := hide ((unhide T).later hb)
      replace VG := hide ((unhide VG).later hb)
      clear hb VH V0
      have p0 := (unhide VG).c0
      have p1 := (unhide VG).c1
      have p2 := (unhide VG).c2
      have p3 := (unhide VG).c3
      have p4 := (unhide VG).c4
      have p5 := (unhide VG).c5
      have p6 := (unhide VG).c6
      have p7 := (unhide VG).c7
      go_wp2_with fail
      refine (heldS_at vg 1 _ ((unhide VG).own.sl (vg.lo.num, ⟨dr.lo.num.g, marks (1) vg.lo.num.n⟩) (by simp)).sl ((unhide VG).own.sl (vg.lo.den, ⟨dr.lo.den.g, marks (1 + (vg.lo.num.n : Int)) vg.lo.den.n⟩) (by simp)).sl ((unhide VG).own.sl (vg.hi.num, ⟨dr.hi.num.g, marks (1 + (vg.lo.num.n : Int) + (vg.lo.den.n : Int)) vg.hi.num.n⟩) (by simp)).sl ((unhide VG).own.sl (vg.hi.den, ⟨dr.hi.den.g, marks (1 + (vg.lo.num.n : Int) + (vg.lo.den.n : Int) + (vg.hi.num.n : Int)) vg.hi.den.n⟩) (by simp)).sl ql0 ql1 ql2 ql3 (by omega) (by omega)).mono ?_
      rintro e w31 ⟨rfl, hb⟩
      replace T := hide ((unhide T).later hb)
      clear p0 p1 p2 p3 p4 p5 p6 p7 hb
      go_wp2
      go_ret
      exact ⟨rfl, (unhide T).bel⟩

theorem lawMulS_walk (v0 : SV) (v1 : SV) (d0 : SD) (d1 : SD) (w : World) (hx0 : AllSl w [(v0.lo.num, d0.lo.num), (v0.lo.den, d0.lo.den), (v0.hi.num, d0.hi.num), (v0.hi.den, d0.hi.den)]) (hx1 : AllSl w [(v1.lo.num, d1.lo.num), (v1.lo.den, d1.lo.den), (v1.hi.num, d1.hi.num), (v1.hi.den, d1.hi.den)])  (m0 : v0.lo.num.n ≤ maxLen) (m1 : v0.lo.den.n ≤ maxLen) (m2 : v0.hi.num.n ≤ maxLen) (m3 : v0.hi.den.n ≤ maxLen) (m4 : v1.lo.num.n ≤ maxLen) (m5 : v1.lo.den.n ≤ maxLen) (m6 : v1.hi.num.n ≤ maxLen) (m7 : v1.hi.den.n ≤ maxLen) :
    Calls Try.prog 10 #[.agg #[.bool v0.lo.num.g, .slice v0.lo.num.a v0.lo.num.n v0.lo.num.c, .bool v0.lo.den.g, .slice v0.lo.den.a v0.lo.den.n v0.lo.den.c, .bool v0.hi.num.g, .slice v0.hi.num.a v0.hi.num.n v0.hi.num.c, .bool v0.hi.den.g, .slice v0.hi.den.a v0.hi.den.n v0.hi.den.c], .agg #[.bool v1.lo.num.g, .slice v1.lo.num.a v1.lo.num.n v1.lo.num.c, .bool v1.lo.den.g, .slice v1.lo.den.a v1.lo.den.n v1.lo.den.c, .bool v1.hi.num.g, .slice v1.hi.num.a v1.hi.num.n v1.hi.num.c, .bool v1.hi.den.g, .slice v1.hi.den.a v1.hi.den.n v1.hi.den.c]] w fun e w' => e = .returned (.bool true) ∧ Below w.heap.size w w' := by
  by_cases g0 : v0.lo.num.n + v0.lo.den.n + v0.hi.num.n + v0.hi.den.n ≤ 1048576
  · by_cases g1 : v0.lo.num.n + v0.lo.den.n + v0.hi.num.n + v0.hi.den.n + v1.lo.num.n + v1.lo.den.n + v1.hi.num.n + v1.hi.den.n ≤ 1048576
    · exact lawMulS_in v0 v1 d0 d1 w hx0 hx1  g1
    · exact lawMulS_out1 v0 v1 w m4 m5 m6 m7 g0 (by omega)
  · exact lawMulS_out0 v0 v1 w m0 m1 m2 m3 (by omega) (by omega)
end Go.Proofs.Ytlmeokeanihhoaa

/- The walk through the law FnExactInvertSpan: it returns true. No condition beyond those typed. Written by mklaw.py. -/
import Derived.Test.YtlmeokeanihhoaaFlatQ
import Derived.Test.YtlmeokeanihhoaaRatF
namespace Go.Proofs.Ytlmeokeanihhoaa
open Go.RowKit
set_option linter.unusedVariables false
set_option maxRecDepth 100000
set_option linter.unusedSimpArgs false

theorem szS_in (v : SV) (left : Int) (w : World) (h0 : 0 ≤ left) (h1 : left ≤ 1048576) (h : (v.lo.num.n : Int) + (v.lo.den.n : Int) + (v.hi.num.n : Int) + (v.hi.den.n : Int) ≤ left) :
    Calls Try.prog 34 #[.agg #[.bool v.lo.num.g, .slice v.lo.num.a v.lo.num.n v.lo.num.c, .bool v.lo.den.g, .slice v.lo.den.a v.lo.den.n v.lo.den.c, .bool v.hi.num.g, .slice v.hi.num.a v.hi.num.n v.hi.num.c, .bool v.hi.den.g, .slice v.hi.den.a v.hi.den.n v.hi.den.c], .int .i64 left] w fun e w' => e = .returned (.int .i64 (left - (v.lo.num.n : Int) - (v.lo.den.n : Int) - (v.hi.num.n : Int) - (v.hi.den.n : Int))) ∧ Below w.heap.size w w' := by
  have k1 : ¬ (left - (v.lo.num.n : Int) - (v.lo.den.n : Int) < 0) := by omega
  have k2 : ¬ (left - (v.lo.num.n : Int) - (v.lo.den.n : Int) - (v.hi.num.n : Int) - (v.hi.den.n : Int) < 0) := by omega
  go_enter Try.func34, Try.ntmps34
  go_wp2_with fail
  refine (szQ_in v.lo left _ h0 h1 (by omega)).mono ?_
  rintro e w1 ⟨rfl, hb1⟩
  have y4 : w1.cell? ⟨w.heap.size, 4, none⟩ = some (.bool v.hi.num.g) := cell_later hb1 (by simp [go_sem])
  have y5 : w1.cell? ⟨w.heap.size, 5, none⟩ = some (.slice v.hi.num.a v.hi.num.n v.hi.num.c) := cell_later hb1 (by simp [go_sem])
  have y6 : w1.cell? ⟨w.heap.size, 6, none⟩ = some (.bool v.hi.den.g) := cell_later hb1 (by simp [go_sem])
  have y7 : w1.cell? ⟨w.heap.size, 7, none⟩ = some (.slice v.hi.den.a v.hi.den.n v.hi.den.c) := cell_later hb1 (by simp [go_sem])
  have HB := hide (ba hb1)
  clear hb1
  go_wp2_with fail
  refine (szQ_in v.hi _ _ (by omega) (by omega) (by omega)).mono ?_
  rintro e w2 ⟨rfl, hb2⟩
  have HB2 := hide (below_on (unhide HB) hb2)
  clear hb2
  go_wp2
  go_ret
  exact ⟨rfl, unhide HB2⟩

theorem szS_out (v : SV) (left : Int) (w : World) (h0 : 0 ≤ left) (h1 : left ≤ 1048576) (hm0 : v.lo.num.n ≤ maxLen) (hm1 : v.lo.den.n ≤ maxLen) (hm2 : v.hi.num.n ≤ maxLen) (hm3 : v.hi.den.n ≤ maxLen) (h : left < (v.lo.num.n : Int) + (v.lo.den.n : Int) + (v.hi.num.n : Int) + (v.hi.den.n : Int)) :
    Calls Try.prog 34 #[.agg #[.bool v.lo.num.g, .slice v.lo.num.a v.lo.num.n v.lo.num.c, .bool v.lo.den.g, .slice v.lo.den.a v.lo.den.n v.lo.den.c, .bool v.hi.num.g, .slice v.hi.num.a v.hi.num.n v.hi.num.c, .bool v.hi.den.g, .slice v.hi.den.a v.hi.den.n v.hi.den.c], .int .i64 left] w fun e w' => e = .returned (.int .i64 (-1)) ∧ Below w.heap.size w w' := by
  by_cases hn : left < (v.lo.num.n : Int) + (v.lo.den.n : Int)
  · go_enter Try.func34, Try.ntmps34
    go_wp2_with fail
    refine (szQ_out v.lo left _ h0 h1 hm0 hm1 hn).mono ?_
    rintro e w1 ⟨rfl, hb1⟩
    have HB := hide (ba hb1)
    clear hb1
    go_wp2
    go_ret
    exact ⟨rfl, unhide HB⟩
  · have k1 : ¬ (left - (v.lo.num.n : Int) - (v.lo.den.n : Int) < 0) := by omega
    go_enter Try.func34, Try.ntmps34
    go_wp2_with fail
    refine (szQ_in v.lo left _ h0 h1 (by omega)).mono ?_
    rintro e w1 ⟨rfl, hb1⟩
    have y4 : w1.cell? ⟨w.heap.size, 4, none⟩ = some (.bool v.hi.num.g) := cell_later hb1 (by simp [go_sem])
    have y5 : w1.cell? ⟨w.heap.size, 5, none⟩ = some (.slice v.hi.num.a v.hi.num.n v.hi.num.c) := cell_later hb1 (by simp [go_sem])
    have y6 : w1.cell? ⟨w.heap.size, 6, none⟩ = some (.bool v.hi.den.g) := cell_later hb1 (by simp [go_sem])
    have y7 : w1.cell? ⟨w.heap.size, 7, none⟩ = some (.slice v.hi.den.a v.hi.den.n v.hi.den.c) := cell_later hb1 (by simp [go_sem])
    have HB := hide (ba hb1)
    clear hb1
    go_wp2_with fail
    refine (szQ_out v.hi _ _ (by omega) (by omega) hm2 hm3 (by omega)).mono ?_
    rintro e w2 ⟨rfl, hb2⟩
    have HB2 := hide (below_on (unhide HB) hb2)
    clear hb2
    go_wp2
    go_ret
    exact ⟨rfl, unhide HB2⟩

theorem AllSl.Sl {w : World} {v : SV} {d : SD} (h : AllSl w [(v.lo.num, d.lo.num), (v.lo.den, d.lo.den), (v.hi.num, d.hi.num), (v.hi.den, d.hi.den)]) : AllSl w [(v.lo.num, d.lo.num), (v.lo.den, d.lo.den)] := fun p hp => h p (show p ∈ [(v.lo.num, d.lo.num), (v.lo.den, d.lo.den), (v.hi.num, d.hi.num), (v.hi.den, d.hi.den)] from (List.mem_append_left [(v.hi.num, d.hi.num), (v.hi.den, d.hi.den)] hp : p ∈ [(v.lo.num, d.lo.num), (v.lo.den, d.lo.den)] ++ [(v.hi.num, d.hi.num), (v.hi.den, d.hi.den)]))
theorem AllSl.Sr {w : World} {v : SV} {d : SD} (h : AllSl w [(v.lo.num, d.lo.num), (v.lo.den, d.lo.den), (v.hi.num, d.hi.num), (v.hi.den, d.hi.den)]) : AllSl w [(v.hi.num, d.hi.num), (v.hi.den, d.hi.den)] := fun p hp => h p (show p ∈ [(v.lo.num, d.lo.num), (v.lo.den, d.lo.den), (v.hi.num, d.hi.num), (v.hi.den, d.hi.den)] from (List.mem_append_right [(v.lo.num, d.lo.num), (v.lo.den, d.lo.den)] hp : p ∈ [(v.lo.num, d.lo.num), (v.lo.den, d.lo.den)] ++ [(v.hi.num, d.hi.num), (v.hi.den, d.hi.den)]))
theorem AllAr.Sl {w : World} {v : SV} {d : SD} (h : AllAr w [(v.lo.num, d.lo.num), (v.lo.den, d.lo.den), (v.hi.num, d.hi.num), (v.hi.den, d.hi.den)]) : AllAr w [(v.lo.num, d.lo.num), (v.lo.den, d.lo.den)] := fun p hp => h p (show p ∈ [(v.lo.num, d.lo.num), (v.lo.den, d.lo.den), (v.hi.num, d.hi.num), (v.hi.den, d.hi.den)] from (List.mem_append_left [(v.hi.num, d.hi.num), (v.hi.den, d.hi.den)] hp : p ∈ [(v.lo.num, d.lo.num), (v.lo.den, d.lo.den)] ++ [(v.hi.num, d.hi.num), (v.hi.den, d.hi.den)]))
theorem AllAr.Sr {w : World} {v : SV} {d : SD} (h : AllAr w [(v.lo.num, d.lo.num), (v.lo.den, d.lo.den), (v.hi.num, d.hi.num), (v.hi.den, d.hi.den)]) : AllAr w [(v.hi.num, d.hi.num), (v.hi.den, d.hi.den)] := fun p hp => h p (show p ∈ [(v.lo.num, d.lo.num), (v.lo.den, d.lo.den), (v.hi.num, d.hi.num), (v.hi.den, d.hi.den)] from (List.mem_append_right [(v.lo.num, d.lo.num), (v.lo.den, d.lo.den)] hp : p ∈ [(v.lo.num, d.lo.num), (v.lo.den, d.lo.den)] ++ [(v.hi.num, d.hi.num), (v.hi.den, d.hi.den)]))

set_option maxHeartbeats 4000000 in
theorem toS_at (v : SV) (d : SD) (w : World) (h : AllSl w [(v.lo.num, d.lo.num), (v.lo.den, d.lo.den), (v.hi.num, d.hi.num), (v.hi.den, d.hi.den)]) (h1 : v.lo.num.n ≤ 1048576) (h2 : v.lo.den.n ≤ 1048576) (h3 : v.hi.num.n ≤ 1048576) (h4 : v.hi.den.n ≤ 1048576) :
    Calls Try.prog 36 #[.agg #[.bool v.lo.num.g, .slice v.lo.num.a v.lo.num.n v.lo.num.c, .bool v.lo.den.g, .slice v.lo.den.a v.lo.den.n v.lo.den.c, .bool v.hi.num.g, .slice v.hi.num.a v.hi.num.n v.hi.num.c, .bool v.hi.den.g, .slice v.hi.den.a v.hi.den.n v.hi.den.c]] w fun e w' => ∃ u : SV, e = .returned (.agg #[.bool u.lo.num.g, .slice u.lo.num.a u.lo.num.n u.lo.num.c, .bool u.lo.den.g, .slice u.lo.den.a u.lo.den.n u.lo.den.c, .bool u.hi.num.g, .slice u.hi.num.a u.hi.num.n u.hi.num.c, .bool u.hi.den.g, .slice u.hi.den.a u.hi.den.n u.hi.den.c]) ∧ Below w.heap.size w w' ∧ (u.lo.num.n = v.lo.num.n ∧ u.lo.den.n = v.lo.den.n ∧ u.hi.num.n = v.hi.num.n ∧ u.hi.den.n = v.hi.den.n) ∧ AllOwn w.heap.size w'.heap.size w' [(u.lo.num, d.lo.num), (u.lo.den, d.lo.den), (u.hi.num, d.hi.num), (u.hi.den, d.hi.den)] ∧ AllAr w' [(u.lo.num, d.lo.num), (u.lo.den, d.lo.den), (u.hi.num, d.hi.num), (u.hi.den, d.hi.den)] := by
  have HX := hide h
  clear h
  have B3 := hide (below_three w (.cells #[.bool v.lo.num.g, .slice v.lo.num.a v.lo.num.n v.lo.num.c, .bool v.lo.den.g, .slice v.lo.den.a v.lo.den.n v.lo.den.c, .bool v.hi.num.g, .slice v.hi.num.a v.hi.num.n v.hi.num.c, .bool v.hi.den.g, .slice v.hi.den.a v.hi.den.n v.hi.den.c] 38) (.cells #[.bool false, .slice none 0 0, .bool false, .slice none 0 0, .bool false, .slice none 0 0, .bool false, .slice none 0 0] 41) (.cells #[.bool false, .slice none 0 0, .bool false, .slice none 0 0, .bool false, .slice none 0 0, .bool false, .slice none 0 0] 41))
  go_enter Try.func36, Try.ntmps36
  go_wp2_with fail
  refine (toQ_at v.lo d.lo _ ((unhide HX).Sl.later (unhide B3)) h1 h2).mono ?_
  rintro e w1 ⟨u1, rfl, hb1, hn1, ow1, ar1⟩
  have hs1 : w.heap.size + 3 ≤ w1.heap.size := by have := hb1.size; simp at this; omega
  have ow1' : AllOwn (w.heap.size + 3) w1.heap.size w1 [(u1.num, d.lo.num), (u1.den, d.lo.den)] := ow1.wide (by simp) (Nat.le_refl _)
  have B1 : Below w.heap.size w w1 := (unhide B3).trans (hb1.mono (by simp <;> omega))
  have y4 : w1.cell? ⟨w.heap.size, 4, none⟩ = some (.bool v.hi.num.g) := cell_later hb1 (by simp [go_sem])
  have y5 : w1.cell? ⟨w.heap.size, 5, none⟩ = some (.slice v.hi.num.a v.hi.num.n v.hi.num.c) := cell_later hb1 (by simp [go_sem])
  have y6 : w1.cell? ⟨w.heap.size, 6, none⟩ = some (.bool v.hi.den.g) := cell_later hb1 (by simp [go_sem])
  have y7 : w1.cell? ⟨w.heap.size, 7, none⟩ = some (.slice v.hi.den.a v.hi.den.n v.hi.den.c) := cell_later hb1 (by simp [go_sem])
  have q0 : w1.cell? ⟨w.heap.size + 1, 0, none⟩ = some (.bool false) := cell_later hb1 (by simp [go_sem])
  have q1 : w1.cell? ⟨w.heap.size + 1, 1, none⟩ = some (.slice none 0 0) := cell_later hb1 (by simp [go_sem])
  have q2 : w1.cell? ⟨w.heap.size + 1, 2, none⟩ = some (.bool false) := cell_later hb1 (by simp [go_sem])
  have q3 : w1.cell? ⟨w.heap.size + 1, 3, none⟩ = some (.slice none 0 0) := cell_later hb1 (by simp [go_sem])
  have q4 : w1.cell? ⟨w.heap.size + 1, 4, none⟩ = some (.bool false) := cell_later hb1 (by simp [go_sem])
  have q5 : w1.cell? ⟨w.heap.size + 1, 5, none⟩ = some (.slice none 0 0) := cell_later hb1 (by simp [go_sem])
  have q6 : w1.cell? ⟨w.heap.size + 1, 6, none⟩ = some (.bool false) := cell_later hb1 (by simp [go_sem])
  have q7 : w1.cell? ⟨w.heap.size + 1, 7, none⟩ = some (.slice none 0 0) := cell_later hb1 (by simp [go_sem])
  have r0 : w1.cell? ⟨w.heap.size + 1 + 1, 0, none⟩ = some (.bool false) := cell_later hb1 (by simp [go_sem])
  have r1 : w1.cell? ⟨w.heap.size + 1 + 1, 1, none⟩ = some (.slice none 0 0) := cell_later hb1 (by simp [go_sem])
  have r2 : w1.cell? ⟨w.heap.size + 1 + 1, 2, none⟩ = some (.bool false) := cell_later hb1 (by simp [go_sem])
  have r3 : w1.cell? ⟨w.heap.size + 1 + 1, 3, none⟩ = some (.slice none 0 0) := cell_later hb1 (by simp [go_sem])
  have r4 : w1.cell? ⟨w.heap.size + 1 + 1, 4, none⟩ = some (.bool false) := cell_later hb1 (by simp [go_sem])
  have r5 : w1.cell? ⟨w.heap.size + 1 + 1, 5, none⟩ = some (.slice none 0 0) := cell_later hb1 (by simp [go_sem])
  have r6 : w1.cell? ⟨w.heap.size + 1 + 1, 6, none⟩ = some (.bool false) := cell_later hb1 (by simp [go_sem])
  have r7 : w1.cell? ⟨w.heap.size + 1 + 1, 7, none⟩ = some (.slice none 0 0) := cell_later hb1 (by simp [go_sem])
  have f1 : ∀ o, w1.frozen? ⟨w.heap.size + 1, o, none⟩ = false := fun o => frozen_later hb1 (by simp) (by simp [go_sem])
  have f2 : ∀ o, w1.frozen? ⟨w.heap.size + 1 + 1, o, none⟩ = false := fun o => frozen_later hb1 (by simp) (by simp [go_sem])
  have O1 := hide (And.intro ow1' (And.intro ar1 hn1))
  have HB1 := hide B1
  clear ow1 ow1' ar1 hn1 hb1 B1
  go_wp2_with fail
  have B1' : Below w.heap.size w ((((w1.setCell ⟨w.heap.size + 1 + 1, 0, none⟩ (.bool u1.num.g)).setCell ⟨w.heap.size + 1 + 1, 1, none⟩ (.slice u1.num.a u1.num.n u1.num.c)).setCell ⟨w.heap.size + 1 + 1, 2, none⟩ (.bool u1.den.g)).setCell ⟨w.heap.size + 1 + 1, 3, none⟩ (.slice u1.den.a u1.den.n u1.den.c)) := (((((unhide HB1).setCell (by show w.heap.size ≤ w.heap.size + 1 + 1; omega) _).setCell (by show w.heap.size ≤ w.heap.size + 1 + 1; omega) _).setCell (by show w.heap.size ≤ w.heap.size + 1 + 1; omega) _).setCell (by show w.heap.size ≤ w.heap.size + 1 + 1; omega) _)
  refine (toQ_at v.hi d.hi _ ((unhide HX).Sr.later B1') h3 h4).mono ?_
  rintro e w2 ⟨u2, rfl, hb2, hn2, ow2, ar2⟩
  have hsz : ((((w1.setCell ⟨w.heap.size + 1 + 1, 0, none⟩ (.bool u1.num.g)).setCell ⟨w.heap.size + 1 + 1, 1, none⟩ (.slice u1.num.a u1.num.n u1.num.c)).setCell ⟨w.heap.size + 1 + 1, 2, none⟩ (.bool u1.den.g)).setCell ⟨w.heap.size + 1 + 1, 3, none⟩ (.slice u1.den.a u1.den.n u1.den.c)).heap.size = w1.heap.size := by simp [World.setCell]
  have ow2' : AllOwn w1.heap.size w2.heap.size w2 [(u2.num, d.hi.num), (u2.den, d.hi.den)] := ow2.wide (by rw [hsz]; exact Nat.le_refl _) (Nat.le_refl _)
  have bt : But (w.heap.size + 1 + 1) (w.heap.size + 3) w1 ((((w1.setCell ⟨w.heap.size + 1 + 1, 0, none⟩ (.bool u1.num.g)).setCell ⟨w.heap.size + 1 + 1, 1, none⟩ (.slice u1.num.a u1.num.n u1.num.c)).setCell ⟨w.heap.size + 1 + 1, 2, none⟩ (.bool u1.den.g)).setCell ⟨w.heap.size + 1 + 1, 3, none⟩ (.slice u1.den.a u1.den.n u1.den.c)) := (((((But.refl _ _ _).set (p := ⟨w.heap.size + 1 + 1, 0, none⟩) (Nat.le_refl _) (by show w.heap.size + 1 + 1 < w.heap.size + 3; omega) _).set (p := ⟨w.heap.size + 1 + 1, 1, none⟩) (Nat.le_refl _) (by show w.heap.size + 1 + 1 < w.heap.size + 3; omega) _).set (p := ⟨w.heap.size + 1 + 1, 2, none⟩) (Nat.le_refl _) (by show w.heap.size + 1 + 1 < w.heap.size + 3; omega) _).set (p := ⟨w.heap.size + 1 + 1, 3, none⟩) (Nat.le_refl _) (by show w.heap.size + 1 + 1 < w.heap.size + 3; omega) _)
  have ow1 : AllOwn (w.heap.size + 3) w1.heap.size w2 [(u1.num, d.lo.num), (u1.den, d.lo.den)] := ((unhide O1).1.but bt (.inr (Nat.le_refl _))).later hb2
  have ar1 : AllAr w2 [(u1.num, d.lo.num), (u1.den, d.lo.den)] := fun p hp => ⟨((unhide O1).2.1 p hp).sg, ⟨(ow1.sl p hp).sl, ((unhide O1).2.1 p hp).ar.len, ((unhide O1).2.1 p hp).ar.cap, ((unhide O1).2.1 p hp).ar.top, ((unhide O1).2.1 p hp).ar.addr⟩⟩
  have hs2 : w1.heap.size ≤ w2.heap.size := by have := hb2.size; rw [hsz] at this; exact this
  have s0 : w2.cell? ⟨w.heap.size + 1 + 1, 0, none⟩ = some (.bool u1.num.g) := cell_later hb2 (by simp [go_sem, r0, r1, r2, r3, r4, r5, r6, r7])
  have s1 : w2.cell? ⟨w.heap.size + 1 + 1, 1, none⟩ = some (.slice u1.num.a u1.num.n u1.num.c) := cell_later hb2 (by simp [go_sem, r0, r1, r2, r3, r4, r5, r6, r7])
  have s2 : w2.cell? ⟨w.heap.size + 1 + 1, 2, none⟩ = some (.bool u1.den.g) := cell_later hb2 (by simp [go_sem, r0, r1, r2, r3, r4, r5, r6, r7])
  have s3 : w2.cell? ⟨w.heap.size + 1 + 1, 3, none⟩ = some (.slice u1.den.a u1.den.n u1.den.c) := cell_later hb2 (by simp [go_sem, r0, r1, r2, r3, r4, r5, r6, r7])
  have s4 : w2.cell? ⟨w.heap.size + 1 + 1, 4, none⟩ = some (.bool false) := cell_later hb2 (by simp [go_sem, r4])
  have s5 : w2.cell? ⟨w.heap.size + 1 + 1, 5, none⟩ = some (.slice none 0 0) := cell_later hb2 (by simp [go_sem, r5])
  have s6 : w2.cell? ⟨w.heap.size + 1 + 1, 6, none⟩ = some (.bool false) := cell_later hb2 (by simp [go_sem, r6])
  have s7 : w2.cell? ⟨w.heap.size + 1 + 1, 7, none⟩ = some (.slice none 0 0) := cell_later hb2 (by simp [go_sem, r7])
  have t0 : w2.cell? ⟨w.heap.size + 1, 0, none⟩ = some (.bool false) := cell_later hb2 (by simp [go_sem, q0])
  have t1 : w2.cell? ⟨w.heap.size + 1, 1, none⟩ = some (.slice none 0 0) := cell_later hb2 (by simp [go_sem, q1])
  have t2 : w2.cell? ⟨w.heap.size + 1, 2, none⟩ = some (.bool false) := cell_later hb2 (by simp [go_sem, q2])
  have t3 : w2.cell? ⟨w.heap.size + 1, 3, none⟩ = some (.slice none 0 0) := cell_later hb2 (by simp [go_sem, q3])
  have t4 : w2.cell? ⟨w.heap.size + 1, 4, none⟩ = some (.bool false) := cell_later hb2 (by simp [go_sem, q4])
  have t5 : w2.cell? ⟨w.heap.size + 1, 5, none⟩ = some (.slice none 0 0) := cell_later hb2 (by simp [go_sem, q5])
  have t6 : w2.cell? ⟨w.heap.size + 1, 6, none⟩ = some (.bool false) := cell_later hb2 (by simp [go_sem, q6])
  have t7 : w2.cell? ⟨w.heap.size + 1, 7, none⟩ = some (.slice none 0 0) := cell_later hb2 (by simp [go_sem, q7])
  have f3 : ∀ o, w2.frozen? ⟨w.heap.size + 1, o, none⟩ = false := fun o => frozen_later hb2 (by rw [hsz]; omega) (by simp [go_sem, f1])
  have f4 : ∀ o, w2.frozen? ⟨w.heap.size + 1 + 1, o, none⟩ = false := fun o => frozen_later hb2 (by rw [hsz]; omega) (by simp [go_sem, f2])
  have HO := hide (And.intro (ow1.join ow2' hs1 hs2) (And.intro ar1 (And.intro ar2 (And.intro (unhide O1).2.2 hn2))))
  have HB2 := hide (below_on B1' hb2)
  clear ow1 ow2 ow2' ar1 ar2 hn2 hb2 bt B1' y4 y5 y6 y7 q0 r0 q1 r1 q2 r2 q3 r3 q4 r4 q5 r5 q6 r6 q7 r7 f1 f2 O1 HB1 hsz
  go_wp2
  have hlt : (w.heap.size ≤ w.heap.size + 1 + 1) ∧ (w.heap.size ≤ w.heap.size + 1) ∧ (w.heap.size + 1 + 1 < w.heap.size + 3) ∧ (w.heap.size + 1 < w.heap.size + 3) ∧ (w.heap.size + 1 ≤ w.heap.size + 1 + 1) := by omega
  have bt : But (w.heap.size + 1) (w.heap.size + 3) w2 ((((((((((((w2.setCell ⟨w.heap.size + 1 + 1, 4, none⟩ (.bool u2.num.g)).setCell ⟨w.heap.size + 1 + 1, 5, none⟩ (.slice u2.num.a u2.num.n u2.num.c)).setCell ⟨w.heap.size + 1 + 1, 6, none⟩ (.bool u2.den.g)).setCell ⟨w.heap.size + 1 + 1, 7, none⟩ (.slice u2.den.a u2.den.n u2.den.c)).setCell ⟨w.heap.size + 1, 0, none⟩ (.bool u1.num.g)).setCell ⟨w.heap.size + 1, 1, none⟩ (.slice u1.num.a u1.num.n u1.num.c)).setCell ⟨w.heap.size + 1, 2, none⟩ (.bool u1.den.g)).setCell ⟨w.heap.size + 1, 3, none⟩ (.slice u1.den.a u1.den.n u1.den.c)).setCell ⟨w.heap.size + 1, 4, none⟩ (.bool u2.num.g)).setCell ⟨w.heap.size + 1, 5, none⟩ (.slice u2.num.a u2.num.n u2.num.c)).setCell ⟨w.heap.size + 1, 6, none⟩ (.bool u2.den.g)).setCell ⟨w.heap.size + 1, 7, none⟩ (.slice u2.den.a u2.den.n u2.den.c)) := by
    refine ((((((((((((But.refl _ _ _).set (p := ⟨w.heap.size + 1 + 1, 4, none⟩) ?_ ?_ _).set (p := ⟨w.heap.size + 1 + 1, 5, none⟩) ?_ ?_ _).set (p := ⟨w.heap.size + 1 + 1, 6, none⟩) ?_ ?_ _).set (p := ⟨w.heap.size + 1 + 1, 7, none⟩) ?_ ?_ _).set (p := ⟨w.heap.size + 1, 0, none⟩) ?_ ?_ _).set (p := ⟨w.heap.size + 1, 1, none⟩) ?_ ?_ _).set (p := ⟨w.heap.size + 1, 2, none⟩) ?_ ?_ _).set (p := ⟨w.heap.size + 1, 3, none⟩) ?_ ?_ _).set (p := ⟨w.heap.size + 1, 4, none⟩) ?_ ?_ _).set (p := ⟨w.heap.size + 1, 5, none⟩) ?_ ?_ _).set (p := ⟨w.heap.size + 1, 6, none⟩) ?_ ?_ _).set (p := ⟨w.heap.size + 1, 7, none⟩) ?_ ?_ _ <;> first | exact hlt.1 | exact hlt.2.1 | exact hlt.2.2.1 | exact hlt.2.2.2.1 | exact hlt.2.2.2.2 | exact Nat.le_refl _
  refine bodyPost_ret (v := .agg #[.bool u1.num.g, .slice u1.num.a u1.num.n u1.num.c, .bool u1.den.g, .slice u1.den.a u1.den.n u1.den.c, .bool u2.num.g, .slice u2.num.a u2.num.n u2.num.c, .bool u2.den.g, .slice u2.den.a u2.den.n u2.den.c]) (by simp [results, Try.results36, go_sem, s0, t0, s1, t1, s2, t2, s3, t3, s4, t4, s5, t5, s6, t6, s7, t7]) rfl ⟨⟨u1, u2⟩, rfl, bt.below (unhide HB2) (Nat.le_succ _) (unhide HB2).size, ?_, ?_, ?_⟩
  · have q := (unhide HO).2.2.2
    exact ⟨q.1.1, q.1.2, q.2.1, q.2.2⟩
  · exact ((unhide HO).1.but bt (.inr (Nat.le_refl _))).wide (by omega) bt.size
  · have oo := ((unhide HO).1.but bt (.inr (Nat.le_refl _))).sl
    have aa := (unhide HO).2.1.append (unhide HO).2.2.1
    exact fun p hp => ⟨(aa p hp).sg, ⟨(oo p hp).sl, (aa p hp).ar.len, (aa p hp).ar.cap, (aa p hp).ar.top, (aa p hp).ar.addr⟩⟩

set_option maxHeartbeats 1000000 in
theorem eqS_at (v v' : SV) (d : SD) (w : World) (h : AllSl w [(v.lo.num, d.lo.num), (v.lo.den, d.lo.den), (v.hi.num, d.hi.num), (v.hi.den, d.hi.den)]) (h' : AllSl w [(v'.lo.num, d.lo.num), (v'.lo.den, d.lo.den), (v'.hi.num, d.hi.num), (v'.hi.den, d.hi.den)]) (hm0 : v.lo.num.n ≤ maxLen) (hm1 : v.lo.den.n ≤ maxLen) (hm2 : v.hi.num.n ≤ maxLen) (hm3 : v.hi.den.n ≤ maxLen) :
    Calls Try.prog 38 #[.agg #[.bool v.lo.num.g, .slice v.lo.num.a v.lo.num.n v.lo.num.c, .bool v.lo.den.g, .slice v.lo.den.a v.lo.den.n v.lo.den.c, .bool v.hi.num.g, .slice v.hi.num.a v.hi.num.n v.hi.num.c, .bool v.hi.den.g, .slice v.hi.den.a v.hi.den.n v.hi.den.c], .agg #[.bool v'.lo.num.g, .slice v'.lo.num.a v'.lo.num.n v'.lo.num.c, .bool v'.lo.den.g, .slice v'.lo.den.a v'.lo.den.n v'.lo.den.c, .bool v'.hi.num.g, .slice v'.hi.num.a v'.hi.num.n v'.hi.num.c, .bool v'.hi.den.g, .slice v'.hi.den.a v'.hi.den.n v'.hi.den.c]] w fun e w' => e = .returned (.bool true) ∧ Below w.heap.size w w' := by
  have HX := hide h
  have HX' := hide h'
  clear h h'
  have B2 := hide (below_two w (.cells #[.bool v.lo.num.g, .slice v.lo.num.a v.lo.num.n v.lo.num.c, .bool v.lo.den.g, .slice v.lo.den.a v.lo.den.n v.lo.den.c, .bool v.hi.num.g, .slice v.hi.num.a v.hi.num.n v.hi.num.c, .bool v.hi.den.g, .slice v.hi.den.a v.hi.den.n v.hi.den.c] 41) (.cells #[.bool v'.lo.num.g, .slice v'.lo.num.a v'.lo.num.n v'.lo.num.c, .bool v'.lo.den.g, .slice v'.lo.den.a v'.lo.den.n v'.lo.den.c, .bool v'.hi.num.g, .slice v'.hi.num.a v'.hi.num.n v'.hi.num.c, .bool v'.hi.den.g, .slice v'.hi.den.a v'.hi.den.n v'.hi.den.c] 41))
  go_enter Try.func38, Try.ntmps38
  go_wp2_with fail
  refine (eqQ_at v.lo v'.lo d.lo _ ((unhide HX).Sl.later (unhide B2)) ((unhide HX').Sl.later (unhide B2)) hm0 hm1).mono ?_
  rintro e w1 ⟨rfl, hb1⟩
  have x4 : w1.cell? ⟨w.heap.size, 4, none⟩ = some (.bool v.hi.num.g) := cell_later hb1 (by simp [go_sem])
  have x5 : w1.cell? ⟨w.heap.size, 5, none⟩ = some (.slice v.hi.num.a v.hi.num.n v.hi.num.c) := cell_later hb1 (by simp [go_sem])
  have x6 : w1.cell? ⟨w.heap.size, 6, none⟩ = some (.bool v.hi.den.g) := cell_later hb1 (by simp [go_sem])
  have x7 : w1.cell? ⟨w.heap.size, 7, none⟩ = some (.slice v.hi.den.a v.hi.den.n v.hi.den.c) := cell_later hb1 (by simp [go_sem])
  have y4 : w1.cell? ⟨w.heap.size + 1, 4, none⟩ = some (.bool v'.hi.num.g) := cell_later hb1 (by simp [go_sem])
  have y5 : w1.cell? ⟨w.heap.size + 1, 5, none⟩ = some (.slice v'.hi.num.a v'.hi.num.n v'.hi.num.c) := cell_later hb1 (by simp [go_sem])
  have y6 : w1.cell? ⟨w.heap.size + 1, 6, none⟩ = some (.bool v'.hi.den.g) := cell_later hb1 (by simp [go_sem])
  have y7 : w1.cell? ⟨w.heap.size + 1, 7, none⟩ = some (.slice v'.hi.den.a v'.hi.den.n v'.hi.den.c) := cell_later hb1 (by simp [go_sem])
  have HB := hide (below_two' hb1)
  clear hb1
  go_wp2_with fail
  refine (eqQ_at v.hi v'.hi d.hi _ ((unhide HX).Sr.later (unhide HB)) ((unhide HX').Sr.later (unhide HB)) hm2 hm3).mono ?_
  rintro e w2 ⟨rfl, hb2⟩
  have HB2 := hide (below_on (unhide HB) hb2)
  clear hb2
  go_wp2
  go_ret
  exact ⟨rfl, unhide HB2⟩

theorem re_assocS {lo hi : Nat} {w : World} {pre post xs ys : List (BV × BD)} (h : AllOwn lo hi w (pre ++ (xs ++ (ys ++ post)))) : AllOwn lo hi w ((pre ++ xs) ++ (ys ++ post)) := by rw [List.append_assoc]; exact h
set_option maxHeartbeats 1000000 in
theorem markS_at (v : SV) (d : SD) (pre post : List (BV × BD)) (k : Int) (lo hi : Nat) (w : World) (h : AllOwn lo hi w (pre ++ (v.lo.num, d.lo.num) :: (v.lo.den, d.lo.den) :: (v.hi.num, d.hi.num) :: (v.hi.den, d.hi.den) :: post)) (h1 : v.lo.num.n ≤ 1048576) (h2 : v.lo.den.n ≤ 1048576) (h3 : v.hi.num.n ≤ 1048576) (h4 : v.hi.den.n ≤ 1048576) (hh : hi ≤ w.heap.size) (k0 : 0 ≤ k) (k1 : k + (v.lo.num.n : Int) + (v.lo.den.n : Int) + (v.hi.num.n : Int) + (v.hi.den.n : Int) ≤ 4000000) :
    Calls Try.prog 39 #[.agg #[.bool v.lo.num.g, .slice v.lo.num.a v.lo.num.n v.lo.num.c, .bool v.lo.den.g, .slice v.lo.den.a v.lo.den.n v.lo.den.c, .bool v.hi.num.g, .slice v.hi.num.a v.hi.num.n v.hi.num.c, .bool v.hi.den.g, .slice v.hi.den.a v.hi.den.n v.hi.den.c], .int .i64 k] w fun e w' => e = .returned (.int .i64 (k + (v.lo.num.n : Int) + (v.lo.den.n : Int) + (v.hi.num.n : Int) + (v.hi.den.n : Int))) ∧ But lo hi w w' ∧ AllOwn lo hi w' (pre ++ (v.lo.num, ⟨d.lo.num.g, marks (k) v.lo.num.n⟩) :: (v.lo.den, ⟨d.lo.den.g, marks (k + v.lo.num.n) v.lo.den.n⟩) :: (v.hi.num, ⟨d.hi.num.g, marks (k + v.lo.num.n + v.lo.den.n) v.hi.num.n⟩) :: (v.hi.den, ⟨d.hi.den.g, marks (k + v.lo.num.n + v.lo.den.n + v.hi.num.n) v.hi.den.n⟩) :: post) := by
  have HO := hide h
  clear h
  have HB := hide (show ∀ o, Below w.heap.size w (w.alloc o) from fun o => (Below.refl _ _).alloc (Nat.le_refl _) _)
  have y : (w.alloc (.cells #[.bool v.lo.num.g, .slice v.lo.num.a v.lo.num.n v.lo.num.c, .bool v.lo.den.g, .slice v.lo.den.a v.lo.den.n v.lo.den.c, .bool v.hi.num.g, .slice v.hi.num.a v.hi.num.n v.hi.num.c, .bool v.hi.den.g, .slice v.hi.den.a v.hi.den.n v.hi.den.c] 41)).cell? ⟨w.heap.size, 4, none⟩ = some (.bool v.hi.num.g) ∧ (w.alloc (.cells #[.bool v.lo.num.g, .slice v.lo.num.a v.lo.num.n v.lo.num.c, .bool v.lo.den.g, .slice v.lo.den.a v.lo.den.n v.lo.den.c, .bool v.hi.num.g, .slice v.hi.num.a v.hi.num.n v.hi.num.c, .bool v.hi.den.g, .slice v.hi.den.a v.hi.den.n v.hi.den.c] 41)).cell? ⟨w.heap.size, 5, none⟩ = some (.slice v.hi.num.a v.hi.num.n v.hi.num.c) ∧ (w.alloc (.cells #[.bool v.lo.num.g, .slice v.lo.num.a v.lo.num.n v.lo.num.c, .bool v.lo.den.g, .slice v.lo.den.a v.lo.den.n v.lo.den.c, .bool v.hi.num.g, .slice v.hi.num.a v.hi.num.n v.hi.num.c, .bool v.hi.den.g, .slice v.hi.den.a v.hi.den.n v.hi.den.c] 41)).cell? ⟨w.heap.size, 6, none⟩ = some (.bool v.hi.den.g) ∧ (w.alloc (.cells #[.bool v.lo.num.g, .slice v.lo.num.a v.lo.num.n v.lo.num.c, .bool v.lo.den.g, .slice v.lo.den.a v.lo.den.n v.lo.den.c, .bool v.hi.num.g, .slice v.hi.num.a v.hi.num.n v.hi.num.c, .bool v.hi.den.g, .slice v.hi.den.a v.hi.den.n v.hi.den.c] 41)).cell? ⟨w.heap.size, 7, none⟩ = some (.slice v.hi.den.a v.hi.den.n v.hi.den.c) := by refine ⟨?_, ?_, ?_, ?_⟩ <;> simp [go_sem]
  go_enter Try.func39, Try.ntmps39
  go_wp2_with fail
  refine (markQ_at v.lo d.lo pre ((v.hi.num, d.hi.num) :: (v.hi.den, d.hi.den) :: post) k lo hi _ ((unhide HO).later (unhide HB _)) h1 h2 (by simp; omega) k0 (by omega)).mono ?_
  rintro e w1 ⟨rfl, hb, ho⟩
  have HF := hide (And.intro ((But.of_below (unhide HB _)).trans hb) ho)
  obtain ⟨y4, y5, y6, y7⟩ := y
  have hz1 : hi ≤ w1.heap.size := by have := hb.size; simp at this; omega
  replace y4 := hb.cell y4 (.inr hh)
  replace y5 := hb.cell y5 (.inr hh)
  replace y6 := hb.cell y6 (.inr hh)
  replace y7 := hb.cell y7 (.inr hh)
  clear hb ho
  go_wp2_with fail
  refine (markQ_at v.hi d.hi (pre ++ [(v.lo.num, ⟨d.lo.num.g, marks (k) v.lo.num.n⟩), (v.lo.den, ⟨d.lo.den.g, marks (k + v.lo.num.n) v.lo.den.n⟩)]) post _ lo hi w1 (re_assocS (xs := [(v.lo.num, ⟨d.lo.num.g, marks (k) v.lo.num.n⟩), (v.lo.den, ⟨d.lo.den.g, marks (k + v.lo.num.n) v.lo.den.n⟩)]) (ys := [(v.hi.num, d.hi.num), (v.hi.den, d.hi.den)]) (unhide HF).2) h3 h4 hz1 (by omega) (by omega)).mono ?_
  rintro e w2 ⟨rfl, hb2, ho2⟩
  have HF2 := hide (And.intro ((unhide HF).1.trans hb2) ho2)
  clear hb2 ho2
  go_wp2
  go_ret
  refine ⟨rfl, (unhide HF2).1, ?_⟩
  have := (unhide HF2).2
  rw [List.append_assoc] at this
  exact this

set_option maxHeartbeats 1000000 in
theorem heldS_at (v : SV) (k : Int) (w : World) (s0 : Sl w v.lo.num.a (marks (k) v.lo.num.n)) (s1 : Sl w v.lo.den.a (marks (k + v.lo.num.n) v.lo.den.n)) (s2 : Sl w v.hi.num.a (marks (k + v.lo.num.n + v.lo.den.n) v.hi.num.n)) (s3 : Sl w v.hi.den.a (marks (k + v.lo.num.n + v.lo.den.n + v.hi.num.n) v.hi.den.n)) (h1 : v.lo.num.n ≤ 1048576) (h2 : v.lo.den.n ≤ 1048576) (h3 : v.hi.num.n ≤ 1048576) (h4 : v.hi.den.n ≤ 1048576) (k0 : 0 ≤ k) (k1 : k + (v.lo.num.n : Int) + (v.lo.den.n : Int) + (v.hi.num.n : Int) + (v.hi.den.n : Int) ≤ 4000000) :
    Calls Try.prog 40 #[.agg #[.bool v.lo.num.g, .slice v.lo.num.a v.lo.num.n v.lo.num.c, .bool v.lo.den.g, .slice v.lo.den.a v.lo.den.n v.lo.den.c, .bool v.hi.num.g, .slice v.hi.num.a v.hi.num.n v.hi.num.c, .bool v.hi.den.g, .slice v.hi.den.a v.hi.den.n v.hi.den.c], .int .i64 k] w fun e w' => e = .returned (.int .i64 (k + (v.lo.num.n : Int) + (v.lo.den.n : Int) + (v.hi.num.n : Int) + (v.hi.den.n : Int))) ∧ Below w.heap.size w w' := by
  have HS := hide (And.intro s0 (And.intro s1 (And.intro s2 s3)))
  clear s0 s1 s2 s3
  have hk1 : ¬ (k + (v.lo.num.n : Int) + (v.lo.den.n : Int) < 0) := by omega
  have hk2 : ¬ (k + (v.lo.num.n : Int) + (v.lo.den.n : Int) + (v.hi.num.n : Int) + (v.hi.den.n : Int) < 0) := by omega
  have HB := hide (show ∀ o, Below w.heap.size w (w.alloc o) from fun o => (Below.refl _ _).alloc (Nat.le_refl _) _)
  go_enter Try.func40, Try.ntmps40
  go_wp2_with fail
  refine (heldQ_at v.lo k _ ((unhide HS).1.later (Nat.le_refl _) (unhide HB _)) ((unhide HS).2.1.later (Nat.le_refl _) (unhide HB _)) h1 h2 k0 (by omega)).mono ?_
  rintro e w1 ⟨rfl, hb1⟩
  have y4 : w1.cell? ⟨w.heap.size, 4, none⟩ = some (.bool v.hi.num.g) := cell_later hb1 (by simp [go_sem])
  have y5 : w1.cell? ⟨w.heap.size, 5, none⟩ = some (.slice v.hi.num.a v.hi.num.n v.hi.num.c) := cell_later hb1 (by simp [go_sem])
  have y6 : w1.cell? ⟨w.heap.size, 6, none⟩ = some (.bool v.hi.den.g) := cell_later hb1 (by simp [go_sem])
  have y7 : w1.cell? ⟨w.heap.size, 7, none⟩ = some (.slice v.hi.den.a v.hi.den.n v.hi.den.c) := cell_later hb1 (by simp [go_sem])
  have HB1 := hide (ba hb1)
  clear hb1
  go_wp2_with fail
  refine (heldQ_at v.hi _ _ ((unhide HS).2.2.1.later (Nat.le_refl _) (unhide HB1)) ((unhide HS).2.2.2.later (Nat.le_refl _) (unhide HB1)) h3 h4 (by omega) (by omega)).mono ?_
  rintro e w2 ⟨rfl, hb2⟩
  have HB2 := hide (below_on (unhide HB1) hb2)
  clear hb2
  go_wp2
  go_ret
  exact ⟨rfl, unhide HB2⟩
end Go.Proofs.Ytlmeokeanihhoaa
namespace Go.Proofs.Ytlmeokeanihhoaa
open Go.RowKit
set_option linter.unusedVariables false
set_option maxRecDepth 100000
set_option linter.unusedSimpArgs false

/-- -1, 0 or 1. -/
def cmpZ (A B : Int) : Int := if A < B then -1 else if B < A then 1 else 0
theorem cmpTop_range (xs ys : List Int) (k : Nat) : cmpTop xs ys k = -1 ∨ cmpTop xs ys k = 0 ∨ cmpTop xs ys k = 1 := by
  induction k with
  | zero => right; left; rfl
  | succ k ih =>
    unfold cmpTop
    split
    · left; rfl
    · split
      · right; right; rfl
      · exact ih
theorem cmpL_range (xs ys : List Int) : cmpL xs ys = -1 ∨ cmpL xs ys = 0 ∨ cmpL xs ys = 1 := by
  unfold cmpL
  split
  · left; rfl
  · split
    · right; right; rfl
    · exact cmpTop_range _ _ _
theorem cmpB_val {A B : Int} {ts us : List Int} (h : Nm ts A.natAbs) (k : Nm us B.natAbs) : cmpB (decide (A < 0)) ts (decide (B < 0)) us = cmpZ A B := by
  have h1 := cmpL_val h.ok k.ok h.tr k.tr
  have h2 := cmpL_val k.ok h.ok k.tr h.tr
  have r1 := cmpL_range ts us
  have r2 := cmpL_range us ts
  rw [h.v, k.v] at h1 h2
  unfold cmpB cmpZ
  by_cases a : A < 0 <;> by_cases b : B < 0
  · rw [decide_eq_true a, decide_eq_true b, if_pos rfl, if_pos rfl]
    split
    · omega
    · split <;> omega
  · rw [decide_eq_true a, decide_eq_false b, if_neg (by simp), if_pos rfl, if_pos (by omega)]
  · rw [decide_eq_false a, decide_eq_true b, if_neg (by simp), if_neg (by simp), if_neg (by omega), if_pos (by omega)]
  · rw [decide_eq_false a, decide_eq_false b, if_pos rfl, if_neg (by simp)]
    split
    · omega
    · split <;> omega
theorem cmpI_v (b b' : BV) (V V' : Int) (w : World) (h : IsB w b V) (h' : IsB w b' V') :
    Calls Try.prog 200 #[.agg #[.bool b.g, .slice b.a b.n b.c], .agg #[.bool b'.g, .slice b'.a b'.n b'.c]] w fun e w' => e = .returned (.int .i64 (cmpZ V V')) ∧ Below w.heap.size w w' := by
  obtain ⟨xs, h1, n1⟩ := h
  obtain ⟨ys, h2, n2⟩ := h'
  refine (cmpBI_any b.g b'.g b.a b'.a b.n b'.n b.c b'.c xs ys w h1.ar.sl h2.ar.sl h1.ar.len h2.ar.len (Nat.le_trans h1.ar.cap h1.ar.top) (Nat.le_trans h2.ar.cap h2.ar.top)).mono ?_
  rintro e w' ⟨rfl, hb⟩
  exact ⟨by rw [h1.sg, h2.sg, cmpB_val n1 n2], hb⟩
theorem cmpS_v (b b' : BV) (V V' : Int) (w : World) (h : IsB w b V) (h' : IsB w b' V') :
    Calls Try.prog 152 #[.agg #[.bool b.g, .slice b.a b.n b.c], .agg #[.bool b'.g, .slice b'.a b'.n b'.c]] w fun e w' => e = .returned (.int .i64 (cmpZ V V')) ∧ Below w.heap.size w w' := by
  obtain ⟨xs, h1, n1⟩ := h
  obtain ⟨ys, h2, n2⟩ := h'
  refine (cmpBS_any b.g b'.g b.a b'.a b.n b'.n b.c b'.c xs ys w h1.ar.sl h2.ar.sl h1.ar.len h2.ar.len (Nat.le_trans h1.ar.cap h1.ar.top) (Nat.le_trans h2.ar.cap h2.ar.top)).mono ?_
  rintro e w' ⟨rfl, hb⟩
  exact ⟨by rw [h1.sg, h2.sg, cmpB_val n1 n2], hb⟩

set_option maxHeartbeats 4000000 in
theorem cmpQI (q q' : QV) (N D N' D' : Int) (w : World) (h : IsQ w q N D) (h' : IsQ w q' N' D') (k1 : Bd N 200000) (k2 : Bd D 200000) (k3 : Bd N' 200000) (k4 : Bd D' 200000) :
    Calls Try.prog 158 #[.agg #[.bool q.num.g, .slice q.num.a q.num.n q.num.c, .bool q.den.g, .slice q.den.a q.den.n q.den.c], .agg #[.bool q'.num.g, .slice q'.num.a q'.num.n q'.num.c, .bool q'.den.g, .slice q'.den.a q'.den.n q'.den.c]] w fun e w' => e = .returned (.int .i64 (cmpZ (N * D') (N' * D))) ∧ Below w.heap.size w w' := by
  have H1 := hide h
  have H2 := hide h'
  have K1 := hide (k1.mono (show 200000 ≤ 400000 by omega))
  have K2 := hide (k2.mono (show 200000 ≤ 400000 by omega))
  have K3 := hide (k3.mono (show 200000 ≤ 400000 by omega))
  have K4 := hide (k4.mono (show 200000 ≤ 400000 by omega))
  clear h h' k1 k2 k3 k4
  go_enter Try.func158, Try.ntmps158
  go_upto_region 1 with fail
  have hb : Below w.heap.size w ((w.alloc (.cells #[.bool q.num.g, .slice q.num.a q.num.n q.num.c, .bool q.den.g, .slice q.den.a q.den.n q.den.c] 30)).alloc (.cells #[.bool q'.num.g, .slice q'.num.a q'.num.n q'.num.c, .bool q'.den.g, .slice q'.den.a q'.den.n q'.den.c] 30)) := (((Below.refl _ _).alloc (by simp) _).alloc (by simp) _)
  have k0_0 : ((w.alloc (.cells #[.bool q.num.g, .slice q.num.a q.num.n q.num.c, .bool q.den.g, .slice q.den.a q.den.n q.den.c] 30)).alloc (.cells #[.bool q'.num.g, .slice q'.num.a q'.num.n q'.num.c, .bool q'.den.g, .slice q'.den.a q'.den.n q'.den.c] 30)).cell? ⟨w.heap.size, 0, none⟩ = some (.bool q.num.g) := by simp [go_sem]
  have k0_1 : ((w.alloc (.cells #[.bool q.num.g, .slice q.num.a q.num.n q.num.c, .bool q.den.g, .slice q.den.a q.den.n q.den.c] 30)).alloc (.cells #[.bool q'.num.g, .slice q'.num.a q'.num.n q'.num.c, .bool q'.den.g, .slice q'.den.a q'.den.n q'.den.c] 30)).cell? ⟨w.heap.size, 1, none⟩ = some (.slice q.num.a q.num.n q.num.c) := by simp [go_sem]
  have k0_2 : ((w.alloc (.cells #[.bool q.num.g, .slice q.num.a q.num.n q.num.c, .bool q.den.g, .slice q.den.a q.den.n q.den.c] 30)).alloc (.cells #[.bool q'.num.g, .slice q'.num.a q'.num.n q'.num.c, .bool q'.den.g, .slice q'.den.a q'.den.n q'.den.c] 30)).cell? ⟨w.heap.size, 2, none⟩ = some (.bool q.den.g) := by simp [go_sem]
  have k0_3 : ((w.alloc (.cells #[.bool q.num.g, .slice q.num.a q.num.n q.num.c, .bool q.den.g, .slice q.den.a q.den.n q.den.c] 30)).alloc (.cells #[.bool q'.num.g, .slice q'.num.a q'.num.n q'.num.c, .bool q'.den.g, .slice q'.den.a q'.den.n q'.den.c] 30)).cell? ⟨w.heap.size, 3, none⟩ = some (.slice q.den.a q.den.n q.den.c) := by simp [go_sem]
  have k1_0 : ((w.alloc (.cells #[.bool q.num.g, .slice q.num.a q.num.n q.num.c, .bool q.den.g, .slice q.den.a q.den.n q.den.c] 30)).alloc (.cells #[.bool q'.num.g, .slice q'.num.a q'.num.n q'.num.c, .bool q'.den.g, .slice q'.den.a q'.den.n q'.den.c] 30)).cell? ⟨w.heap.size + 1, 0, none⟩ = some (.bool q'.num.g) := by simp [go_sem]
  have k1_1 : ((w.alloc (.cells #[.bool q.num.g, .slice q.num.a q.num.n q.num.c, .bool q.den.g, .slice q.den.a q.den.n q.den.c] 30)).alloc (.cells #[.bool q'.num.g, .slice q'.num.a q'.num.n q'.num.c, .bool q'.den.g, .slice q'.den.a q'.den.n q'.den.c] 30)).cell? ⟨w.heap.size + 1, 1, none⟩ = some (.slice q'.num.a q'.num.n q'.num.c) := by simp [go_sem]
  have k1_2 : ((w.alloc (.cells #[.bool q.num.g, .slice q.num.a q.num.n q.num.c, .bool q.den.g, .slice q.den.a q.den.n q.den.c] 30)).alloc (.cells #[.bool q'.num.g, .slice q'.num.a q'.num.n q'.num.c, .bool q'.den.g, .slice q'.den.a q'.den.n q'.den.c] 30)).cell? ⟨w.heap.size + 1, 2, none⟩ = some (.bool q'.den.g) := by simp [go_sem]
  have k1_3 : ((w.alloc (.cells #[.bool q.num.g, .slice q.num.a q.num.n q.num.c, .bool q.den.g, .slice q.den.a q.den.n q.den.c] 30)).alloc (.cells #[.bool q'.num.g, .slice q'.num.a q'.num.n q'.num.c, .bool q'.den.g, .slice q'.den.a q'.den.n q'.den.c] 30)).cell? ⟨w.heap.size + 1, 3, none⟩ = some (.slice q'.den.a q'.den.n q'.den.c) := by simp [go_sem]
  have Q1 := hide ((unhide H1).later hb)
  have Q2 := hide ((unhide H2).later hb)
  have szw0 : w.heap.size + 2 ≤ ((w.alloc (.cells #[.bool q.num.g, .slice q.num.a q.num.n q.num.c, .bool q.den.g, .slice q.den.a q.den.n q.den.c] 30)).alloc (.cells #[.bool q'.num.g, .slice q'.num.a q'.num.n q'.num.c, .bool q'.den.g, .slice q'.den.a q'.den.n q'.den.c] 30)).heap.size := by simp
  have HB := hide hb
  clear hb
  generalize ((w.alloc (.cells #[.bool q.num.g, .slice q.num.a q.num.n q.num.c, .bool q.den.g, .slice q.den.a q.den.n q.den.c] 30)).alloc (.cells #[.bool q'.num.g, .slice q'.num.a q'.num.n q'.num.c, .bool q'.den.g, .slice q'.den.a q'.den.n q'.den.c] 30)) = w0 at *
  go_region_held3 (fun w' => w'.cell? ⟨w.heap.size, 0, none⟩ = some (.bool q.num.g) ∧ w'.cell? ⟨w.heap.size, 1, none⟩ = some (.slice q.num.a q.num.n q.num.c) ∧ w'.cell? ⟨w.heap.size, 2, none⟩ = some (.bool q.den.g) ∧ w'.cell? ⟨w.heap.size, 3, none⟩ = some (.slice q.den.a q.den.n q.den.c) ∧ w'.cell? ⟨w.heap.size + 1, 0, none⟩ = some (.bool q'.num.g) ∧ w'.cell? ⟨w.heap.size + 1, 1, none⟩ = some (.slice q'.num.a q'.num.n q'.num.c) ∧ w'.cell? ⟨w.heap.size + 1, 2, none⟩ = some (.bool q'.den.g) ∧ w'.cell? ⟨w.heap.size + 1, 3, none⟩ = some (.slice q'.den.a q'.den.n q'.den.c)) (with_reducible (first | exact ⟨k0_0, k0_1, k0_2, k0_3, k1_0, k1_1, k1_2, k1_3⟩ | exact ⟨cd_other k0_0, cd_other k0_1, cd_other k0_2, cd_other k0_3, cd_other k1_0, cd_other k1_1, cd_other k1_2, cd_other k1_3⟩ | fail))
    (first
    | (go_at_call_of 147 (Value.agg #[Value.bool q.num.g, Value.slice q.num.a q.num.n q.num.c]); refine (mulI_v q.num q'.den N D' _ ?_ ?_ (unhide K1) (unhide K4)).mono ?_; exact (unhide Q1).1.later (Below.refl _ _).drew; exact (unhide Q2).2.later (Below.refl _ _).drew; rintro e w1 ⟨x1, lx1, rfl, hb, ox1, ax1, nx1⟩; have hbx : Below w0.heap.size w0 w1 := below_of_drew hb; have szw1 := hbx.size; replace k0_0 := cell_later hbx k0_0; replace k0_1 := cell_later hbx k0_1; replace k0_2 := cell_later hbx k0_2; replace k0_3 := cell_later hbx k0_3; replace k1_0 := cell_later hbx k1_0; replace k1_1 := cell_later hbx k1_1; replace k1_2 := cell_later hbx k1_2; replace k1_3 := cell_later hbx k1_3; replace Q1 := hide ((unhide Q1).later hbx); replace Q2 := hide ((unhide Q2).later hbx); have Px1 := hide (outN_ow ox1 ax1 nx1); have HBr := hide hbx; clear hbx hb ox1 ax1 nx1)
    | (go_at_call_of 147 (Value.agg #[Value.bool q'.num.g, Value.slice q'.num.a q'.num.n q'.num.c]); refine (mulI_v q'.num q.den N' D _ ?_ ?_ (unhide K3) (unhide K2)).mono ?_; exact (unhide Q2).1.later (Below.refl _ _); exact (unhide Q1).2.later (Below.refl _ _); rintro e w2 ⟨x2, lx2, rfl, hb, ox2, ax2, nx2⟩; have hbx : Below w1.heap.size w1 w2 := hb; have szw2 := hbx.size; replace k0_0 := cell_later hbx k0_0; replace k0_1 := cell_later hbx k0_1; replace k0_2 := cell_later hbx k0_2; replace k0_3 := cell_later hbx k0_3; replace k1_0 := cell_later hbx k1_0; replace k1_1 := cell_later hbx k1_1; replace k1_2 := cell_later hbx k1_2; replace k1_3 := cell_later hbx k1_3; replace Q1 := hide ((unhide Q1).later hbx); replace Q2 := hide ((unhide Q2).later hbx); replace Px1 := hide ((unhide Px1).later hbx); have Px2 := hide (outN_ow ox2 ax2 nx2); have HBr := hide (below_on (unhide HBr) hbx); clear hbx hb ox2 ax2 nx2)
    | (go_at_call 200; refine (cmpI_v x1 x2 (N * D') (N' * D) _ ?_ ?_).mono ?_; exact (unhide Px1).is.later (Below.refl _ _); exact (unhide Px2).is.later (Below.refl _ _); rintro e w3 ⟨rfl, hb⟩; have hbx : Below w2.heap.size w2 w3 := hb; have szw3 := hbx.size; replace k0_0 := cell_later hbx k0_0; replace k0_1 := cell_later hbx k0_1; replace k0_2 := cell_later hbx k0_2; replace k0_3 := cell_later hbx k0_3; replace k1_0 := cell_later hbx k1_0; replace k1_1 := cell_later hbx k1_1; replace k1_2 := cell_later hbx k1_2; replace k1_3 := cell_later hbx k1_3; replace Q1 := hide ((unhide Q1).later hbx); replace Q2 := hide ((unhide Q2).later hbx); replace Px1 := hide ((unhide Px1).later hbx); replace Px2 := hide ((unhide Px2).later hbx); have HBr := hide (below_on (unhide HBr) hbx); clear hbx hb))
  replace HB := hide (below_on (unhide HB) (unhide HBr))
  clear HBr
  go_wp2
  go_ret
  exact ⟨rfl, unhide HB⟩

set_option maxHeartbeats 4000000 in
theorem cmpQS (q q' : QV) (N D N' D' : Int) (w : World) (h : IsQ w q N D) (h' : IsQ w q' N' D') (k1 : Bd N 200000) (k2 : Bd D 200000) (k3 : Bd N' 200000) (k4 : Bd D' 200000) :
    Calls Try.prog 92 #[.agg #[.bool q.num.g, .slice q.num.a q.num.n q.num.c, .bool q.den.g, .slice q.den.a q.den.n q.den.c], .agg #[.bool q'.num.g, .slice q'.num.a q'.num.n q'.num.c, .bool q'.den.g, .slice q'.den.a q'.den.n q'.den.c]] w fun e w' => e = .returned (.int .i64 (cmpZ (N * D') (N' * D))) ∧ Below w.heap.size w w' := by
  have H1 := hide h
  have H2 := hide h'
  have K1 := hide (k1.mono (show 200000 ≤ 400000 by omega))
  have K2 := hide (k2.mono (show 200000 ≤ 400000 by omega))
  have K3 := hide (k3.mono (show 200000 ≤ 400000 by omega))
  have K4 := hide (k4.mono (show 200000 ≤ 400000 by omega))
  clear h h' k1 k2 k3 k4
  go_enter Try.func92, Try.ntmps92
  go_upto_region 1 with fail
  have hb : Below w.heap.size w ((w.alloc (.cells #[.bool q.num.g, .slice q.num.a q.num.n q.num.c, .bool q.den.g, .slice q.den.a q.den.n q.den.c] 30)).alloc (.cells #[.bool q'.num.g, .slice q'.num.a q'.num.n q'.num.c, .bool q'.den.g, .slice q'.den.a q'.den.n q'.den.c] 30)) := (((Below.refl _ _).alloc (by simp) _).alloc (by simp) _)
  have k0_0 : ((w.alloc (.cells #[.bool q.num.g, .slice q.num.a q.num.n q.num.c, .bool q.den.g, .slice q.den.a q.den.n q.den.c] 30)).alloc (.cells #[.bool q'.num.g, .slice q'.num.a q'.num.n q'.num.c, .bool q'.den.g, .slice q'.den.a q'.den.n q'.den.c] 30)).cell? ⟨w.heap.size, 0, none⟩ = some (.bool q.num.g) := by simp [go_sem]
  have k0_1 : ((w.alloc (.cells #[.bool q.num.g, .slice q.num.a q.num.n q.num.c, .bool q.den.g, .slice q.den.a q.den.n q.den.c] 30)).alloc (.cells #[.bool q'.num.g, .slice q'.num.a q'.num.n q'.num.c, .bool q'.den.g, .slice q'.den.a q'.den.n q'.den.c] 30)).cell? ⟨w.heap.size, 1, none⟩ = some (.slice q.num.a q.num.n q.num.c) := by simp [go_sem]
  have k0_2 : ((w.alloc (.cells #[.bool q.num.g, .slice q.num.a q.num.n q.num.c, .bool q.den.g, .slice q.den.a q.den.n q.den.c] 30)).alloc (.cells #[.bool q'.num.g, .slice q'.num.a q'.num.n q'.num.c, .bool q'.den.g, .slice q'.den.a q'.den.n q'.den.c] 30)).cell? ⟨w.heap.size, 2, none⟩ = some (.bool q.den.g) := by simp [go_sem]
  have k0_3 : ((w.alloc (.cells #[.bool q.num.g, .slice q.num.a q.num.n q.num.c, .bool q.den.g, .slice q.den.a q.den.n q.den.c] 30)).alloc (.cells #[.bool q'.num.g, .slice q'.num.a q'.num.n q'.num.c, .bool q'.den.g, .slice q'.den.a q'.den.n q'.den.c] 30)).cell? ⟨w.heap.size, 3, none⟩ = some (.slice q.den.a q.den.n q.den.c) := by simp [go_sem]
  have k1_0 : ((w.alloc (.cells #[.bool q.num.g, .slice q.num.a q.num.n q.num.c, .bool q.den.g, .slice q.den.a q.den.n q.den.c] 30)).alloc (.cells #[.bool q'.num.g, .slice q'.num.a q'.num.n q'.num.c, .bool q'.den.g, .slice q'.den.a q'.den.n q'.den.c] 30)).cell? ⟨w.heap.size + 1, 0, none⟩ = some (.bool q'.num.g) := by simp [go_sem]
  have k1_1 : ((w.alloc (.cells #[.bool q.num.g, .slice q.num.a q.num.n q.num.c, .bool q.den.g, .slice q.den.a q.den.n q.den.c] 30)).alloc (.cells #[.bool q'.num.g, .slice q'.num.a q'.num.n q'.num.c, .bool q'.den.g, .slice q'.den.a q'.den.n q'.den.c] 30)).cell? ⟨w.heap.size + 1, 1, none⟩ = some (.slice q'.num.a q'.num.n q'.num.c) := by simp [go_sem]
  have k1_2 : ((w.alloc (.cells #[.bool q.num.g, .slice q.num.a q.num.n q.num.c, .bool q.den.g, .slice q.den.a q.den.n q.den.c] 30)).alloc (.cells #[.bool q'.num.g, .slice q'.num.a q'.num.n q'.num.c, .bool q'.den.g, .slice q'.den.a q'.den.n q'.den.c] 30)).cell? ⟨w.heap.size + 1, 2, none⟩ = some (.bool q'.den.g) := by simp [go_sem]
  have k1_3 : ((w.alloc (.cells #[.bool q.num.g, .slice q.num.a q.num.n q.num.c, .bool q.den.g, .slice q.den.a q.den.n q.den.c] 30)).alloc (.cells #[.bool q'.num.g, .slice q'.num.a q'.num.n q'.num.c, .bool q'.den.g, .slice q'.den.a q'.den.n q'.den.c] 30)).cell? ⟨w.heap.size + 1, 3, none⟩ = some (.slice q'.den.a q'.den.n q'.den.c) := by simp [go_sem]
  have Q1 := hide ((unhide H1).later hb)
  have Q2 := hide ((unhide H2).later hb)
  have szw0 : w.heap.size + 2 ≤ ((w.alloc (.cells #[.bool q.num.g, .slice q.num.a q.num.n q.num.c, .bool q.den.g, .slice q.den.a q.den.n q.den.c] 30)).alloc (.cells #[.bool q'.num.g, .slice q'.num.a q'.num.n q'.num.c, .bool q'.den.g, .slice q'.den.a q'.den.n q'.den.c] 30)).heap.size := by simp
  have HB := hide hb
  clear hb
  generalize ((w.alloc (.cells #[.bool q.num.g, .slice q.num.a q.num.n q.num.c, .bool q.den.g, .slice q.den.a q.den.n q.den.c] 30)).alloc (.cells #[.bool q'.num.g, .slice q'.num.a q'.num.n q'.num.c, .bool q'.den.g, .slice q'.den.a q'.den.n q'.den.c] 30)) = w0 at *
  go_region_held3 (fun w' => w'.cell? ⟨w.heap.size, 0, none⟩ = some (.bool q.num.g) ∧ w'.cell? ⟨w.heap.size, 1, none⟩ = some (.slice q.num.a q.num.n q.num.c) ∧ w'.cell? ⟨w.heap.size, 2, none⟩ = some (.bool q.den.g) ∧ w'.cell? ⟨w.heap.size, 3, none⟩ = some (.slice q.den.a q.den.n q.den.c) ∧ w'.cell? ⟨w.heap.size + 1, 0, none⟩ = some (.bool q'.num.g) ∧ w'.cell? ⟨w.heap.size + 1, 1, none⟩ = some (.slice q'.num.a q'.num.n q'.num.c) ∧ w'.cell? ⟨w.heap.size + 1, 2, none⟩ = some (.bool q'.den.g) ∧ w'.cell? ⟨w.heap.size + 1, 3, none⟩ = some (.slice q'.den.a q'.den.n q'.den.c)) (with_reducible (first | exact ⟨k0_0, k0_1, k0_2, k0_3, k1_0, k1_1, k1_2, k1_3⟩ | exact ⟨cd_other k0_0, cd_other k0_1, cd_other k0_2, cd_other k0_3, cd_other k1_0, cd_other k1_1, cd_other k1_2, cd_other k1_3⟩ | fail))
    (first
    | (go_at_call_of 144 (Value.agg #[Value.bool q.num.g, Value.slice q.num.a q.num.n q.num.c]); refine (mulS_v q.num q'.den N D' _ ?_ ?_ (unhide K1) (unhide K4)).mono ?_; exact (unhide Q1).1.later (Below.refl _ _).drew; exact (unhide Q2).2.later (Below.refl _ _).drew; rintro e w1 ⟨x1, lx1, rfl, hb, ox1, ax1, nx1⟩; have hbx : Below w0.heap.size w0 w1 := below_of_drew hb; have szw1 := hbx.size; replace k0_0 := cell_later hbx k0_0; replace k0_1 := cell_later hbx k0_1; replace k0_2 := cell_later hbx k0_2; replace k0_3 := cell_later hbx k0_3; replace k1_0 := cell_later hbx k1_0; replace k1_1 := cell_later hbx k1_1; replace k1_2 := cell_later hbx k1_2; replace k1_3 := cell_later hbx k1_3; replace Q1 := hide ((unhide Q1).later hbx); replace Q2 := hide ((unhide Q2).later hbx); have Px1 := hide (outN_ow ox1 ax1 nx1); have HBr := hide hbx; clear hbx hb ox1 ax1 nx1)
    | (go_at_call_of 144 (Value.agg #[Value.bool q'.num.g, Value.slice q'.num.a q'.num.n q'.num.c]); refine (mulS_v q'.num q.den N' D _ ?_ ?_ (unhide K3) (unhide K2)).mono ?_; exact (unhide Q2).1.later (Below.refl _ _); exact (unhide Q1).2.later (Below.refl _ _); rintro e w2 ⟨x2, lx2, rfl, hb, ox2, ax2, nx2⟩; have hbx : Below w1.heap.size w1 w2 := hb; have szw2 := hbx.size; replace k0_0 := cell_later hbx k0_0; replace k0_1 := cell_later hbx k0_1; replace k0_2 := cell_later hbx k0_2; replace k0_3 := cell_later hbx k0_3; replace k1_0 := cell_later hbx k1_0; replace k1_1 := cell_later hbx k1_1; replace k1_2 := cell_later hbx k1_2; replace k1_3 := cell_later hbx k1_3; replace Q1 := hide ((unhide Q1).later hbx); replace Q2 := hide ((unhide Q2).later hbx); replace Px1 := hide ((unhide Px1).later hbx); have Px2 := hide (outN_ow ox2 ax2 nx2); have HBr := hide (below_on (unhide HBr) hbx); clear hbx hb ox2 ax2 nx2)
    | (go_at_call 152; refine (cmpS_v x1 x2 (N * D') (N' * D) _ ?_ ?_).mono ?_; exact (unhide Px1).is.later (Below.refl _ _); exact (unhide Px2).is.later (Below.refl _ _); rintro e w3 ⟨rfl, hb⟩; have hbx : Below w2.heap.size w2 w3 := hb; have szw3 := hbx.size; replace k0_0 := cell_later hbx k0_0; replace k0_1 := cell_later hbx k0_1; replace k0_2 := cell_later hbx k0_2; replace k0_3 := cell_later hbx k0_3; replace k1_0 := cell_later hbx k1_0; replace k1_1 := cell_later hbx k1_1; replace k1_2 := cell_later hbx k1_2; replace k1_3 := cell_later hbx k1_3; replace Q1 := hide ((unhide Q1).later hbx); replace Q2 := hide ((unhide Q2).later hbx); replace Px1 := hide ((unhide Px1).later hbx); replace Px2 := hide ((unhide Px2).later hbx); have HBr := hide (below_on (unhide HBr) hbx); clear hbx hb))
  replace HB := hide (below_on (unhide HB) (unhide HBr))
  clear HBr
  go_wp2
  go_ret
  exact ⟨rfl, unhide HB⟩

def gS (d : SD) : Bool := (gQ d.lo && gQ d.hi) && decide (nQ d.lo * dQ d.hi ≤ nQ d.hi * dQ d.lo)
theorem cmpZ_le (A B : Int) : decide (cmpZ A B ≤ 0) = decide (A ≤ B) := by
  unfold cmpZ
  split
  · exact decide_eq_decide.2 (by omega)
  · split <;> exact decide_eq_decide.2 (by omega)
theorem AllAr.lo {w : World} {v : SV} {d : SD} (h : AllAr w [(v.lo.num, d.lo.num), (v.lo.den, d.lo.den), (v.hi.num, d.hi.num), (v.hi.den, d.hi.den)]) : AllAr w [(v.lo.num, d.lo.num), (v.lo.den, d.lo.den)] := h.Sl
theorem AllAr.hi {w : World} {v : SV} {d : SD} (h : AllAr w [(v.lo.num, d.lo.num), (v.lo.den, d.lo.den), (v.hi.num, d.hi.num), (v.hi.den, d.hi.den)]) : AllAr w [(v.hi.num, d.hi.num), (v.hi.den, d.hi.den)] := h.Sr

set_option maxHeartbeats 4000000 in
theorem goodSI (v : SV) (d : SD) (w : World) (h : AllAr w [(v.lo.num, d.lo.num), (v.lo.den, d.lo.den), (v.hi.num, d.hi.num), (v.hi.den, d.hi.den)]) :
    Calls Try.prog 111 #[.agg #[.bool v.lo.num.g, .slice v.lo.num.a v.lo.num.n v.lo.num.c, .bool v.lo.den.g, .slice v.lo.den.a v.lo.den.n v.lo.den.c, .bool v.hi.num.g, .slice v.hi.num.a v.hi.num.n v.hi.num.c, .bool v.hi.den.g, .slice v.hi.den.a v.hi.den.n v.hi.den.c]] w fun e w' => e = .returned (.bool (gS d)) ∧ Below w.heap.size w w' := by
  have H1 := hide h.lo
  have H2 := hide h.hi
  clear h
  cases hg1 : gQ d.lo
  · have G1 := hide (fun w1 (k : AllAr w1 [(v.lo.num, d.lo.num), (v.lo.den, d.lo.den)]) => goodQI v.lo d.lo w1 k)
    rw [hg1] at G1
    rw [show gS d = false from by unfold gS; rw [hg1]; rfl]
    clear hg1
    have B0 := hide (show Below w.heap.size w (w.alloc (.cells #[.bool v.lo.num.g, .slice v.lo.num.a v.lo.num.n v.lo.num.c, .bool v.lo.den.g, .slice v.lo.den.a v.lo.den.n v.lo.den.c, .bool v.hi.num.g, .slice v.hi.num.a v.hi.num.n v.hi.num.c, .bool v.hi.den.g, .slice v.hi.den.a v.hi.den.n v.hi.den.c] 41)) from ((Below.refl _ _).alloc (by simp) _))
    go_enter Try.func111, Try.ntmps111
    go_wp2_with fail
    refine (unhide G1 _ ((unhide H1).later (unhide B0))).mono ?_
    rintro e w1 ⟨rfl, hb⟩
    have HB := hide (below_on (unhide B0) hb)
    clear hb
    go_wp2
    go_ret
    exact ⟨rfl, unhide HB⟩
  · cases hg2 : gQ d.hi
    · have G1 := hide (fun w1 (k : AllAr w1 [(v.lo.num, d.lo.num), (v.lo.den, d.lo.den)]) => goodQI v.lo d.lo w1 k)
      have G2 := hide (fun w1 (k : AllAr w1 [(v.hi.num, d.hi.num), (v.hi.den, d.hi.den)]) => goodQI v.hi d.hi w1 k)
      rw [hg1] at G1
      rw [hg2] at G2
      rw [show gS d = false from by unfold gS; rw [hg1, hg2]; rfl]
      clear hg1 hg2
      have B0 := hide (show Below w.heap.size w (w.alloc (.cells #[.bool v.lo.num.g, .slice v.lo.num.a v.lo.num.n v.lo.num.c, .bool v.lo.den.g, .slice v.lo.den.a v.lo.den.n v.lo.den.c, .bool v.hi.num.g, .slice v.hi.num.a v.hi.num.n v.hi.num.c, .bool v.hi.den.g, .slice v.hi.den.a v.hi.den.n v.hi.den.c] 41)) from ((Below.refl _ _).alloc (by simp) _))
      go_enter Try.func111, Try.ntmps111
      go_wp2_with fail
      refine (unhide G1 _ ((unhide H1).later (unhide B0))).mono ?_
      rintro e w1 ⟨rfl, hb⟩
      have k0_4 : w1.cell? ⟨w.heap.size, 4, none⟩ = some (.bool v.hi.num.g) := cell_later hb (by simp [go_sem])
      have k0_5 : w1.cell? ⟨w.heap.size, 5, none⟩ = some (.slice v.hi.num.a v.hi.num.n v.hi.num.c) := cell_later hb (by simp [go_sem])
      have k0_6 : w1.cell? ⟨w.heap.size, 6, none⟩ = some (.bool v.hi.den.g) := cell_later hb (by simp [go_sem])
      have k0_7 : w1.cell? ⟨w.heap.size, 7, none⟩ = some (.slice v.hi.den.a v.hi.den.n v.hi.den.c) := cell_later hb (by simp [go_sem])
      have HB := hide (below_on (unhide B0) hb)
      clear hb
      go_wp2_with fail
      refine (unhide G2 _ ((unhide H2).later (unhide HB))).mono ?_
      rintro e w2 ⟨rfl, hb⟩
      clear k0_4 k0_5 k0_6 k0_7
      replace HB := hide (below_on (unhide HB) hb)
      clear hb
      go_wp2
      go_ret
      exact ⟨rfl, unhide HB⟩
    · have G1 := hide (fun w1 (k : AllAr w1 [(v.lo.num, d.lo.num), (v.lo.den, d.lo.den)]) => goodQI v.lo d.lo w1 k)
      have G2 := hide (fun w1 (k : AllAr w1 [(v.hi.num, d.hi.num), (v.hi.den, d.hi.den)]) => goodQI v.hi d.hi w1 k)
      rw [hg1] at G1
      rw [hg2] at G2
      have I1 := isGood_of (unhide H1) hg1
      have I2 := isGood_of (unhide H2) hg2
      have EE : Hid (decide (nQ d.lo * dQ d.hi ≤ nQ d.hi * dQ d.lo) = decide (cmpZ (nQ d.lo * dQ d.hi) (nQ d.hi * dQ d.lo) ≤ 0)) := hide (cmpZ_le _ _).symm
      have J1 := hide I1
      have J2 := hide I2
      clear I1 I2
      rw [show gS d = decide (nQ d.lo * dQ d.hi ≤ nQ d.hi * dQ d.lo) from by unfold gS; rw [hg1, hg2]; rfl]
      clear hg1 hg2
      have B0 := hide (show Below w.heap.size w (w.alloc (.cells #[.bool v.lo.num.g, .slice v.lo.num.a v.lo.num.n v.lo.num.c, .bool v.lo.den.g, .slice v.lo.den.a v.lo.den.n v.lo.den.c, .bool v.hi.num.g, .slice v.hi.num.a v.hi.num.n v.hi.num.c, .bool v.hi.den.g, .slice v.hi.den.a v.hi.den.n v.hi.den.c] 41)) from ((Below.refl _ _).alloc (by simp) _))
      go_enter Try.func111, Try.ntmps111
      go_wp2_with fail
      refine (unhide G1 _ ((unhide H1).later (unhide B0))).mono ?_
      rintro e w1 ⟨rfl, hb⟩
      have k0_0 : w1.cell? ⟨w.heap.size, 0, none⟩ = some (.bool v.lo.num.g) := cell_later hb (by simp [go_sem])
      have k0_1 : w1.cell? ⟨w.heap.size, 1, none⟩ = some (.slice v.lo.num.a v.lo.num.n v.lo.num.c) := cell_later hb (by simp [go_sem])
      have k0_2 : w1.cell? ⟨w.heap.size, 2, none⟩ = some (.bool v.lo.den.g) := cell_later hb (by simp [go_sem])
      have k0_3 : w1.cell? ⟨w.heap.size, 3, none⟩ = some (.slice v.lo.den.a v.lo.den.n v.lo.den.c) := cell_later hb (by simp [go_sem])
      have k0_4 : w1.cell? ⟨w.heap.size, 4, none⟩ = some (.bool v.hi.num.g) := cell_later hb (by simp [go_sem])
      have k0_5 : w1.cell? ⟨w.heap.size, 5, none⟩ = some (.slice v.hi.num.a v.hi.num.n v.hi.num.c) := cell_later hb (by simp [go_sem])
      have k0_6 : w1.cell? ⟨w.heap.size, 6, none⟩ = some (.bool v.hi.den.g) := cell_later hb (by simp [go_sem])
      have k0_7 : w1.cell? ⟨w.heap.size, 7, none⟩ = some (.slice v.hi.den.a v.hi.den.n v.hi.den.c) := cell_later hb (by simp [go_sem])
      have HB := hide (below_on (unhide B0) hb)
      clear hb
      go_wp2_with fail
      refine (unhide G2 _ ((unhide H2).later (unhide HB))).mono ?_
      rintro e w2 ⟨rfl, hb⟩
      replace k0_0 := cell_later hb k0_0
      replace k0_1 := cell_later hb k0_1
      replace k0_2 := cell_later hb k0_2
      replace k0_3 := cell_later hb k0_3
      replace k0_4 := cell_later hb k0_4
      replace k0_5 := cell_later hb k0_5
      replace k0_6 := cell_later hb k0_6
      replace k0_7 := cell_later hb k0_7
      replace HB := hide (below_on (unhide HB) hb)
      clear hb
      go_wp2_with fail
      refine (cmpQI v.lo v.hi _ _ _ _ _ ((unhide J1).is.later (unhide HB)) ((unhide J2).is.later (unhide HB)) ((unhide J1).kn.mono (by omega)) ((unhide J1).kd.mono (by omega)) ((unhide J2).kn.mono (by omega)) ((unhide J2).kd.mono (by omega))).mono ?_
      rintro e w3 ⟨rfl, hb⟩
      clear k0_0 k0_1 k0_2 k0_3 k0_4 k0_5 k0_6 k0_7
      replace HB := hide (below_on (unhide HB) hb)
      clear hb
      go_wp2
      go_ret
      exact ⟨by rw [unhide EE]; simp, unhide HB⟩

set_option maxHeartbeats 4000000 in
theorem goodSS (v : SV) (d : SD) (w : World) (h : AllAr w [(v.lo.num, d.lo.num), (v.lo.den, d.lo.den), (v.hi.num, d.hi.num), (v.hi.den, d.hi.den)]) :
    Calls Try.prog 105 #[.agg #[.bool v.lo.num.g, .slice v.lo.num.a v.lo.num.n v.lo.num.c, .bool v.lo.den.g, .slice v.lo.den.a v.lo.den.n v.lo.den.c, .bool v.hi.num.g, .slice v.hi.num.a v.hi.num.n v.hi.num.c, .bool v.hi.den.g, .slice v.hi.den.a v.hi.den.n v.hi.den.c]] w fun e w' => e = .returned (.bool (gS d)) ∧ Below w.heap.size w w' := by
  have H1 := hide h.lo
  have H2 := hide h.hi
  clear h
  cases hP : (gQ d.lo && gQ d.hi)
  · have GB := hide (fun w1 (k : AllAr w1 [(v.lo.num, d.lo.num), (v.lo.den, d.lo.den)]) (k' : AllAr w1 [(v.hi.num, d.hi.num), (v.hi.den, d.hi.den)]) => bothQS v.lo v.hi d.lo d.hi w1 k k')
    rw [hP] at GB
    rw [show gS d = false from by unfold gS; rw [hP]; rfl]
    clear hP
    have B0 := hide (show Below w.heap.size w (w.alloc (.cells #[.bool v.lo.num.g, .slice v.lo.num.a v.lo.num.n v.lo.num.c, .bool v.lo.den.g, .slice v.lo.den.a v.lo.den.n v.lo.den.c, .bool v.hi.num.g, .slice v.hi.num.a v.hi.num.n v.hi.num.c, .bool v.hi.den.g, .slice v.hi.den.a v.hi.den.n v.hi.den.c] 41)) from ((Below.refl _ _).alloc (by simp) _))
    go_enter Try.func105, Try.ntmps105
    go_wp2_with fail
    refine (unhide GB _ ((unhide H1).later (unhide B0)) ((unhide H2).later (unhide B0))).mono ?_
    rintro e w1 ⟨rfl, hb⟩
    have HB := hide (below_on (unhide B0) hb)
    clear hb
    go_wp2
    go_ret
    exact ⟨rfl, unhide HB⟩
  · have GB := hide (fun w1 (k : AllAr w1 [(v.lo.num, d.lo.num), (v.lo.den, d.lo.den)]) (k' : AllAr w1 [(v.hi.num, d.hi.num), (v.hi.den, d.hi.den)]) => bothQS v.lo v.hi d.lo d.hi w1 k k')
    rw [hP] at GB
    have hg1 : gQ d.lo = true := by revert hP; cases gQ d.lo <;> simp
    have hg2 : gQ d.hi = true := by revert hP; cases gQ d.hi <;> simp
    have I1 := isGood_of (unhide H1) hg1
    have I2 := isGood_of (unhide H2) hg2
    have EE : Hid (decide (nQ d.lo * dQ d.hi ≤ nQ d.hi * dQ d.lo) = decide (cmpZ (nQ d.lo * dQ d.hi) (nQ d.hi * dQ d.lo) ≤ 0)) := hide (cmpZ_le _ _).symm
    have J1 := hide I1
    have J2 := hide I2
    clear I1 I2
    rw [show gS d = decide (nQ d.lo * dQ d.hi ≤ nQ d.hi * dQ d.lo) from by unfold gS; rw [hP]; rfl]
    clear hg1 hg2 hP
    have B0 := hide (show Below w.heap.size w (w.alloc (.cells #[.bool v.lo.num.g, .slice v.lo.num.a v.lo.num.n v.lo.num.c, .bool v.lo.den.g, .slice v.lo.den.a v.lo.den.n v.lo.den.c, .bool v.hi.num.g, .slice v.hi.num.a v.hi.num.n v.hi.num.c, .bool v.hi.den.g, .slice v.hi.den.a v.hi.den.n v.hi.den.c] 41)) from ((Below.refl _ _).alloc (by simp) _))
    go_enter Try.func105, Try.ntmps105
    go_wp2_with fail
    refine (unhide GB _ ((unhide H1).later (unhide B0)) ((unhide H2).later (unhide B0))).mono ?_
    rintro e w1 ⟨rfl, hb⟩
    have k0_0 : w1.cell? ⟨w.heap.size, 0, none⟩ = some (.bool v.lo.num.g) := cell_later hb (by simp [go_sem])
    have k0_1 : w1.cell? ⟨w.heap.size, 1, none⟩ = some (.slice v.lo.num.a v.lo.num.n v.lo.num.c) := cell_later hb (by simp [go_sem])
    have k0_2 : w1.cell? ⟨w.heap.size, 2, none⟩ = some (.bool v.lo.den.g) := cell_later hb (by simp [go_sem])
    have k0_3 : w1.cell? ⟨w.heap.size, 3, none⟩ = some (.slice v.lo.den.a v.lo.den.n v.lo.den.c) := cell_later hb (by simp [go_sem])
    have k0_4 : w1.cell? ⟨w.heap.size, 4, none⟩ = some (.bool v.hi.num.g) := cell_later hb (by simp [go_sem])
    have k0_5 : w1.cell? ⟨w.heap.size, 5, none⟩ = some (.slice v.hi.num.a v.hi.num.n v.hi.num.c) := cell_later hb (by simp [go_sem])
    have k0_6 : w1.cell? ⟨w.heap.size, 6, none⟩ = some (.bool v.hi.den.g) := cell_later hb (by simp [go_sem])
    have k0_7 : w1.cell? ⟨w.heap.size, 7, none⟩ = some (.slice v.hi.den.a v.hi.den.n v.hi.den.c) := cell_later hb (by simp [go_sem])
    have HB := hide (below_on (unhide B0) hb)
    clear hb
    go_wp2_with fail
    refine (cmpQS v.lo v.hi _ _ _ _ _ ((unhide J1).is.later (unhide HB)) ((unhide J2).is.later (unhide HB)) ((unhide J1).kn.mono (by omega)) ((unhide J1).kd.mono (by omega)) ((unhide J2).kn.mono (by omega)) ((unhide J2).kd.mono (by omega))).mono ?_
    rintro e w3 ⟨rfl, hb⟩
    clear k0_0 k0_1 k0_2 k0_3 k0_4 k0_5 k0_6 k0_7
    replace HB := hide (below_on (unhide HB) hb)
    clear hb
    go_wp2
    go_ret
    exact ⟨by rw [unhide EE]; simp, unhide HB⟩

structure IsGoodS (w : World) (v : SV) (d : SD) : Prop where
  lo : IsGood w v.lo d.lo
  hi : IsGood w v.hi d.hi
  le : nQ d.lo * dQ d.hi ≤ nQ d.hi * dQ d.lo
theorem isGoodS_of {w : World} {v : SV} {d : SD} (h : AllAr w [(v.lo.num, d.lo.num), (v.lo.den, d.lo.den), (v.hi.num, d.hi.num), (v.hi.den, d.hi.den)]) (hg : gS d = true) : IsGoodS w v d := by
  unfold gS at hg
  simp only [Bool.and_eq_true, decide_eq_true_eq] at hg
  exact ⟨isGood_of h.lo hg.1.1, isGood_of h.hi hg.1.2, hg.2⟩
theorem IsGoodS.later {w w' : World} {v : SV} {d : SD} (h : IsGoodS w v d) (hb : Below w.heap.size w w') : IsGoodS w' v d := ⟨h.lo.later hb, h.hi.later hb, h.le⟩

end Go.Proofs.Ytlmeokeanihhoaa
namespace Go.Proofs.Ytlmeokeanihhoaa
open Go.RowKit
set_option linter.unusedVariables false
set_option maxRecDepth 100000
set_option linter.unusedSimpArgs false

/-- A variable of the law's own: its box at block G, what it leads to at blocks from lo to below hi. -/
structure VarS (wx : World) (G lo hi : Nat) (v : SV) (d : SD) : Prop where
  c0 : wx.cell? ⟨G, 0, none⟩ = some (.bool v.lo.num.g)
  c1 : wx.cell? ⟨G, 1, none⟩ = some (.slice v.lo.num.a v.lo.num.n v.lo.num.c)
  c2 : wx.cell? ⟨G, 2, none⟩ = some (.bool v.lo.den.g)
  c3 : wx.cell? ⟨G, 3, none⟩ = some (.slice v.lo.den.a v.lo.den.n v.lo.den.c)
  c4 : wx.cell? ⟨G, 4, none⟩ = some (.bool v.hi.num.g)
  c5 : wx.cell? ⟨G, 5, none⟩ = some (.slice v.hi.num.a v.hi.num.n v.hi.num.c)
  c6 : wx.cell? ⟨G, 6, none⟩ = some (.bool v.hi.den.g)
  c7 : wx.cell? ⟨G, 7, none⟩ = some (.slice v.hi.den.a v.hi.den.n v.hi.den.c)
  own : AllOwn lo hi wx [(v.lo.num, d.lo.num), (v.lo.den, d.lo.den), (v.hi.num, d.hi.num), (v.hi.den, d.hi.den)]
theorem VarS.later {wx wy : World} {G lo hi : Nat} {v : SV} {d : SD} (h : VarS wx G lo hi v d) (hb : Below wx.heap.size wx wy) : VarS wy G lo hi v d :=
  ⟨cell_later hb h.c0, cell_later hb h.c1, cell_later hb h.c2, cell_later hb h.c3, cell_later hb h.c4, cell_later hb h.c5, cell_later hb h.c6, cell_later hb h.c7, h.own.later hb⟩
theorem VarS.but {wx wy : World} {G lo hi lo' hi' : Nat} {v : SV} {d : SD} (h : VarS wx G lo hi v d) (hb : But lo' hi' wx wy) (hG : G < lo' ∨ hi' ≤ G) (hd : hi ≤ lo' ∨ hi' ≤ lo) : VarS wy G lo hi v d :=
  ⟨hb.cell h.c0 hG, hb.cell h.c1 hG, hb.cell h.c2 hG, hb.cell h.c3 hG, hb.cell h.c4 hG, hb.cell h.c5 hG, hb.cell h.c6 hG, hb.cell h.c7 hG, h.own.but hb hd⟩
theorem VarS.mark {wx wy : World} {G lo hi : Nat} {v : SV} {d d' : SD} (h : VarS wx G lo hi v d) (hb : But lo hi wx wy) (hG : G < lo ∨ hi ≤ G) (ho : AllOwn lo hi wy [(v.lo.num, d'.lo.num), (v.lo.den, d'.lo.den), (v.hi.num, d'.hi.num), (v.hi.den, d'.hi.den)]) : VarS wy G lo hi v d' :=
  ⟨hb.cell h.c0 hG, hb.cell h.c1 hG, hb.cell h.c2 hG, hb.cell h.c3 hG, hb.cell h.c4 hG, hb.cell h.c5 hG, hb.cell h.c6 hG, hb.cell h.c7 hG, ho⟩
theorem VarS.low {wx : World} {G lo hi lo' : Nat} {v : SV} {d : SD} (h : VarS wx G lo hi v d) (hl : lo' ≤ lo) : VarS wx G lo' hi v d := ⟨h.c0, h.c1, h.c2, h.c3, h.c4, h.c5, h.c6, h.c7, h.own.wide hl (Nat.le_refl _)⟩
theorem VarS.start {wx : World} {lo : Nat} {v : SV} {d : SD} (t : TypeId) (h : AllOwn lo wx.heap.size wx [(v.lo.num, d.lo.num), (v.lo.den, d.lo.den), (v.hi.num, d.hi.num), (v.hi.den, d.hi.den)]) : VarS (wx.alloc (.cells #[.bool v.lo.num.g, .slice v.lo.num.a v.lo.num.n v.lo.num.c, .bool v.lo.den.g, .slice v.lo.den.a v.lo.den.n v.lo.den.c, .bool v.hi.num.g, .slice v.hi.num.a v.hi.num.n v.hi.num.c, .bool v.hi.den.g, .slice v.hi.den.a v.hi.den.n v.hi.den.c] t)) wx.heap.size lo wx.heap.size v d :=
  ⟨by simp [go_sem], by simp [go_sem], by simp [go_sem], by simp [go_sem], by simp [go_sem], by simp [go_sem], by simp [go_sem], by simp [go_sem], h.later ((Below.refl _ _).alloc (Nat.le_refl _) _)⟩
theorem VarS.gt {wx : World} {G lo hi : Nat} {v : SV} {d : SD} (h : VarS wx G lo hi v d) : G < wx.heap.size := World.block_lt_of_cell? _ _ h.c0
theorem metS_but {w5 : World} {v : SV} {G : Nat} : But G (G + 1) w5 ((((((((w5.setCell ⟨G, 0, none⟩ (.bool v.lo.num.g)).setCell ⟨G, 1, none⟩ (.slice v.lo.num.a v.lo.num.n v.lo.num.c)).setCell ⟨G, 2, none⟩ (.bool v.lo.den.g)).setCell ⟨G, 3, none⟩ (.slice v.lo.den.a v.lo.den.n v.lo.den.c)).setCell ⟨G, 4, none⟩ (.bool v.hi.num.g)).setCell ⟨G, 5, none⟩ (.slice v.hi.num.a v.hi.num.n v.hi.num.c)).setCell ⟨G, 6, none⟩ (.bool v.hi.den.g)).setCell ⟨G, 7, none⟩ (.slice v.hi.den.a v.hi.den.n v.hi.den.c)) := (((((((((But.refl _ _ _).set (p := ⟨G, 0, none⟩) (Nat.le_refl _) (Nat.lt_succ_self _) _).set (p := ⟨G, 1, none⟩) (Nat.le_refl _) (Nat.lt_succ_self _) _).set (p := ⟨G, 2, none⟩) (Nat.le_refl _) (Nat.lt_succ_self _) _).set (p := ⟨G, 3, none⟩) (Nat.le_refl _) (Nat.lt_succ_self _) _).set (p := ⟨G, 4, none⟩) (Nat.le_refl _) (Nat.lt_succ_self _) _).set (p := ⟨G, 5, none⟩) (Nat.le_refl _) (Nat.lt_succ_self _) _).set (p := ⟨G, 6, none⟩) (Nat.le_refl _) (Nat.lt_succ_self _) _).set (p := ⟨G, 7, none⟩) (Nat.le_refl _) (Nat.lt_succ_self _) _)
end Go.Proofs.Ytlmeokeanihhoaa
namespace Go.Proofs.Ytlmeokeanihhoaa
open Go.RowKit
set_option linter.unusedVariables false
set_option maxRecDepth 100000
set_option linter.unusedSimpArgs false

set_option maxHeartbeats 4000000 in
theorem copyB (b : BV) (V : Int) (w : World) (h : IsB w b V) (k : Bd V 400000) : Calls Try.prog 141 #[.agg #[.bool b.g, .slice b.a b.n b.c]] w (OutN w V) := by
  obtain ⟨xs, hx, _, hl, nx, sx⟩ := h.num k (by omega)
  have HX := hide hx.arg
  have NX := hide nx
  have SX : Hid (sU b.g (V.natAbs : Int) = V) := hide (by rw [sx]; unfold sU; by_cases e : V < 0 <;> simp [e] <;> omega)
  clear h hx nx sx
  go_enter Try.func141, Try.ntmps141
  go_upto_region 1 with fail
  have hb : Below w.heap.size w ((w.alloc (.cells #[.bool b.g, .slice b.a b.n b.c] 28)).alloc (.cells #[.bool false, .slice none 0 0] 28)) := (((Below.refl _ _).alloc (by simp) _).alloc (by simp) _)
  have k0_0 : ((w.alloc (.cells #[.bool b.g, .slice b.a b.n b.c] 28)).alloc (.cells #[.bool false, .slice none 0 0] 28)).cell? ⟨w.heap.size, 0, none⟩ = some (.bool b.g) := by simp [go_sem]
  have k0_1 : ((w.alloc (.cells #[.bool b.g, .slice b.a b.n b.c] 28)).alloc (.cells #[.bool false, .slice none 0 0] 28)).cell? ⟨w.heap.size, 1, none⟩ = some (.slice b.a b.n b.c) := by simp [go_sem]
  have k1_0 : ((w.alloc (.cells #[.bool b.g, .slice b.a b.n b.c] 28)).alloc (.cells #[.bool false, .slice none 0 0] 28)).cell? ⟨w.heap.size + 1, 0, none⟩ = some (.bool false) := by simp [go_sem]
  have k1_1 : ((w.alloc (.cells #[.bool b.g, .slice b.a b.n b.c] 28)).alloc (.cells #[.bool false, .slice none 0 0] 28)).cell? ⟨w.heap.size + 1, 1, none⟩ = some (.slice none 0 0) := by simp [go_sem]
  have z1 : ∀ o, ((w.alloc (.cells #[.bool b.g, .slice b.a b.n b.c] 28)).alloc (.cells #[.bool false, .slice none 0 0] 28)).frozen? ⟨w.heap.size + 1, o, none⟩ = false := fun o => by simp [go_sem]
  have A := hide ((unhide HX).later hb)
  have szw0 : w.heap.size + 2 ≤ ((w.alloc (.cells #[.bool b.g, .slice b.a b.n b.c] 28)).alloc (.cells #[.bool false, .slice none 0 0] 28)).heap.size := by simp
  have HB := hide hb
  clear hb
  generalize ((w.alloc (.cells #[.bool b.g, .slice b.a b.n b.c] 28)).alloc (.cells #[.bool false, .slice none 0 0] 28)) = w0 at *
  have ne0_1 : w.heap.size ≠ w.heap.size + 1 := by omega
  go_region_held3 (fun w' => w'.cell? ⟨w.heap.size, 0, none⟩ = some (.bool b.g) ∧ w'.cell? ⟨w.heap.size, 1, none⟩ = some (.slice b.a b.n b.c)) (with_reducible (first | exact ⟨k0_0, k0_1⟩ | exact ⟨cd_other k0_0, cd_other k0_1⟩ | exact ⟨cs_other (cs_other (k0_0) ne0_1) ne0_1, cs_other (cs_other (k0_1) ne0_1) ne0_1⟩ | fail))
    (first
    | (go_at_call 187; refine (clone_any b.a b.n b.c xs _ ?_ (by omega)).mono ?_; exact (unhide A).later (Below.refl _ _).drew; rintro e w1 ⟨a1, c1, rfl, hb, ho, ha⟩; have hbx : Below w0.heap.size w0 w1 := below_of_drew hb; have szw1 := hbx.size; replace z1 := fun o => frozen_later hbx (World.block_lt_of_cell? _ _ k1_0) (z1 o); replace k0_0 := cell_later hbx k0_0; replace k0_1 := cell_later hbx k0_1; replace k1_0 := cell_later hbx k1_0; replace k1_1 := cell_later hbx k1_1; replace A := hide ((unhide A).later hbx); have A1 := hide (ha); have O1 := hide (ho.two); have HBr := hide hbx; clear hbx hb ho ha)
    | (go_at_call 186; refine (signI_v _ a1 b.n c1 xs _ w0.heap.size w1.heap.size (V.natAbs : Int) ?_ ?_ (unhide NX)).mono ?_; exact (unhide A1).later (Below.refl _ _); exact (unhide O1).later (Below.refl _ _); rintro e w2 ⟨x1, rfl, hb, ow, ar⟩; have hbx : Below w1.heap.size w1 w2 := hb; have szw2 := hbx.size; replace z1 := fun o => frozen_later hbx (World.block_lt_of_cell? _ _ k1_0) (z1 o); replace k0_0 := cell_later hbx k0_0; replace k0_1 := cell_later hbx k0_1; replace k1_0 := cell_later hbx k1_0; replace k1_1 := cell_later hbx k1_1; replace A := hide ((unhide A).later hbx); replace A1 := hide ((unhide A1).later hbx); replace O1 := hide ((unhide O1).later hbx); rw [unhide SX] at ow ar; have OW := hide (ow); have AR := hide (ar); have HBr := hide (below_on (unhide HBr) hbx); clear hbx hb ow ar))
  replace HB := hide (below_on (unhide HB) (unhide HBr))
  clear HBr
  go_wp2
  refine bodyPost_ret (v := .agg #[.bool x1.g, .slice x1.a x1.n x1.c]) (by simp [results, Try.results141, go_sem, k1_0, k1_1]) rfl ?_
  exact outN_fin (b := x1) (R := w.heap.size + 1) (by omega) (unhide HB) (metB_but (w5 := w2) (v := x1) (G := w.heap.size + 1)) ((unhide OW).wide (by omega) (by omega)) (unhide AR) (unhide NX)

set_option maxHeartbeats 4000000 in
theorem copyQ (q : QV) (N D : Int) (w : World) (h : IsQ w q N D) (k1 : Bd N 400000) (k2 : Bd D 400000) : Calls Try.prog 202 #[.agg #[.bool q.num.g, .slice q.num.a q.num.n q.num.c, .bool q.den.g, .slice q.den.a q.den.n q.den.c]] w (OutQ w N D) := by
  have H1 := hide h
  have K1 := hide k1
  have K2 := hide k2
  clear h k1 k2
  go_enter Try.func202, Try.ntmps202
  go_upto_region 1 with fail
  have hb : Below w.heap.size w ((w.alloc (.cells #[.bool q.num.g, .slice q.num.a q.num.n q.num.c, .bool q.den.g, .slice q.den.a q.den.n q.den.c] 30)).alloc (.cells #[.bool false, .slice none 0 0, .bool false, .slice none 0 0] 30)) := (((Below.refl _ _).alloc (by simp) _).alloc (by simp) _)
  have k0_0 : ((w.alloc (.cells #[.bool q.num.g, .slice q.num.a q.num.n q.num.c, .bool q.den.g, .slice q.den.a q.den.n q.den.c] 30)).alloc (.cells #[.bool false, .slice none 0 0, .bool false, .slice none 0 0] 30)).cell? ⟨w.heap.size, 0, none⟩ = some (.bool q.num.g) := by simp [go_sem]
  have k0_1 : ((w.alloc (.cells #[.bool q.num.g, .slice q.num.a q.num.n q.num.c, .bool q.den.g, .slice q.den.a q.den.n q.den.c] 30)).alloc (.cells #[.bool false, .slice none 0 0, .bool false, .slice none 0 0] 30)).cell? ⟨w.heap.size, 1, none⟩ = some (.slice q.num.a q.num.n q.num.c) := by simp [go_sem]
  have k0_2 : ((w.alloc (.cells #[.bool q.num.g, .slice q.num.a q.num.n q.num.c, .bool q.den.g, .slice q.den.a q.den.n q.den.c] 30)).alloc (.cells #[.bool false, .slice none 0 0, .bool false, .slice none 0 0] 30)).cell? ⟨w.heap.size, 2, none⟩ = some (.bool q.den.g) := by simp [go_sem]
  have k0_3 : ((w.alloc (.cells #[.bool q.num.g, .slice q.num.a q.num.n q.num.c, .bool q.den.g, .slice q.den.a q.den.n q.den.c] 30)).alloc (.cells #[.bool false, .slice none 0 0, .bool false, .slice none 0 0] 30)).cell? ⟨w.heap.size, 3, none⟩ = some (.slice q.den.a q.den.n q.den.c) := by simp [go_sem]
  have k1_0 : ((w.alloc (.cells #[.bool q.num.g, .slice q.num.a q.num.n q.num.c, .bool q.den.g, .slice q.den.a q.den.n q.den.c] 30)).alloc (.cells #[.bool false, .slice none 0 0, .bool false, .slice none 0 0] 30)).cell? ⟨w.heap.size + 1, 0, none⟩ = some (.bool false) := by simp [go_sem]
  have k1_1 : ((w.alloc (.cells #[.bool q.num.g, .slice q.num.a q.num.n q.num.c, .bool q.den.g, .slice q.den.a q.den.n q.den.c] 30)).alloc (.cells #[.bool false, .slice none 0 0, .bool false, .slice none 0 0] 30)).cell? ⟨w.heap.size + 1, 1, none⟩ = some (.slice none 0 0) := by simp [go_sem]
  have k1_2 : ((w.alloc (.cells #[.bool q.num.g, .slice q.num.a q.num.n q.num.c, .bool q.den.g, .slice q.den.a q.den.n q.den.c] 30)).alloc (.cells #[.bool false, .slice none 0 0, .bool false, .slice none 0 0] 30)).cell? ⟨w.heap.size + 1, 2, none⟩ = some (.bool false) := by simp [go_sem]
  have k1_3 : ((w.alloc (.cells #[.bool q.num.g, .slice q.num.a q.num.n q.num.c, .bool q.den.g, .slice q.den.a q.den.n q.den.c] 30)).alloc (.cells #[.bool false, .slice none 0 0, .bool false, .slice none 0 0] 30)).cell? ⟨w.heap.size + 1, 3, none⟩ = some (.slice none 0 0) := by simp [go_sem]
  have z1 : ∀ o, ((w.alloc (.cells #[.bool q.num.g, .slice q.num.a q.num.n q.num.c, .bool q.den.g, .slice q.den.a q.den.n q.den.c] 30)).alloc (.cells #[.bool false, .slice none 0 0, .bool false, .slice none 0 0] 30)).frozen? ⟨w.heap.size + 1, o, none⟩ = false := fun o => by simp [go_sem]
  have Q1 := hide ((unhide H1).later hb)
  have szw0 : w.heap.size + 2 ≤ ((w.alloc (.cells #[.bool q.num.g, .slice q.num.a q.num.n q.num.c, .bool q.den.g, .slice q.den.a q.den.n q.den.c] 30)).alloc (.cells #[.bool false, .slice none 0 0, .bool false, .slice none 0 0] 30)).heap.size := by simp
  have HB := hide hb
  clear hb
  generalize ((w.alloc (.cells #[.bool q.num.g, .slice q.num.a q.num.n q.num.c, .bool q.den.g, .slice q.den.a q.den.n q.den.c] 30)).alloc (.cells #[.bool false, .slice none 0 0, .bool false, .slice none 0 0] 30)) = w0 at *
  have ne0_1 : w.heap.size ≠ w.heap.size + 1 := by omega
  go_region_held3 (fun w' => w'.cell? ⟨w.heap.size, 0, none⟩ = some (.bool q.num.g) ∧ w'.cell? ⟨w.heap.size, 1, none⟩ = some (.slice q.num.a q.num.n q.num.c) ∧ w'.cell? ⟨w.heap.size, 2, none⟩ = some (.bool q.den.g) ∧ w'.cell? ⟨w.heap.size, 3, none⟩ = some (.slice q.den.a q.den.n q.den.c)) (with_reducible (first | exact ⟨k0_0, k0_1, k0_2, k0_3⟩ | exact ⟨cd_other k0_0, cd_other k0_1, cd_other k0_2, cd_other k0_3⟩ | exact ⟨cs_other (cs_other (cs_other (cs_other (k0_0) ne0_1) ne0_1) ne0_1) ne0_1, cs_other (cs_other (cs_other (cs_other (k0_1) ne0_1) ne0_1) ne0_1) ne0_1, cs_other (cs_other (cs_other (cs_other (k0_2) ne0_1) ne0_1) ne0_1) ne0_1, cs_other (cs_other (cs_other (cs_other (k0_3) ne0_1) ne0_1) ne0_1) ne0_1⟩ | fail))
    (first
    | (go_at_call_of 141 (Value.agg #[Value.bool q.num.g, Value.slice q.num.a q.num.n q.num.c]); refine (copyB q.num N _ ?_ (unhide K1)).mono ?_; exact (unhide Q1).1.later (Below.refl _ _).drew; rintro e w1 ⟨x1, l1, rfl, hb, o1, a1, n1⟩; have hbx : Below w0.heap.size w0 w1 := below_of_drew hb; have szw1 := hbx.size; replace z1 := fun o => frozen_later hbx (World.block_lt_of_cell? _ _ k1_0) (z1 o); replace k0_0 := cell_later hbx k0_0; replace k0_1 := cell_later hbx k0_1; replace k0_2 := cell_later hbx k0_2; replace k0_3 := cell_later hbx k0_3; replace k1_0 := cell_later hbx k1_0; replace k1_1 := cell_later hbx k1_1; replace k1_2 := cell_later hbx k1_2; replace k1_3 := cell_later hbx k1_3; replace Q1 := hide ((unhide Q1).later hbx); have o1x : AllOwn w0.heap.size w1.heap.size w1 [(x1, ⟨decide (N < 0), l1⟩)] := o1; have P1 := hide (outN_ow o1x a1 n1); have HBr := hide hbx; clear hbx hb o1 a1 n1 o1x)
    | (go_at_call_of 141 (Value.agg #[Value.bool q.den.g, Value.slice q.den.a q.den.n q.den.c]); refine (copyB q.den D _ ?_ (unhide K2)).mono ?_; exact (unhide Q1).2.later (Below.refl _ _); rintro e w2 ⟨x2, l2, rfl, hb, o2, a2, n2⟩; have hbx : Below w1.heap.size w1 w2 := hb; have szw2 := hbx.size; replace z1 := fun o => frozen_later hbx (World.block_lt_of_cell? _ _ k1_0) (z1 o); replace k0_0 := cell_later hbx k0_0; replace k0_1 := cell_later hbx k0_1; replace k0_2 := cell_later hbx k0_2; replace k0_3 := cell_later hbx k0_3; replace k1_0 := cell_later hbx k1_0; replace k1_1 := cell_later hbx k1_1; replace k1_2 := cell_later hbx k1_2; replace k1_3 := cell_later hbx k1_3; replace Q1 := hide ((unhide Q1).later hbx); replace P1 := hide ((unhide P1).later hbx); have P2 := hide (outN_ow o2 a2 n2); have HBr := hide (below_on (unhide HBr) hbx); clear hbx hb o2 a2 n2))
  replace HB := hide (below_on (unhide HB) (unhide HBr))
  clear HBr
  go_wp2
  refine bodyPost_ret (v := .agg #[.bool x1.g, .slice x1.a x1.n x1.c, .bool x2.g, .slice x2.a x2.n x2.c]) (by simp [results, Try.results202, go_sem, k1_0, k1_1, k1_2, k1_3]) rfl ?_
  obtain ⟨zs, us, oo, aa, m1, m2⟩ := (unhide P1).two (unhide P2) (by omega) (by omega)
  exact outQ_fin (q := ⟨x1, x2⟩) (R := w.heap.size + 1) (by omega) (unhide HB) (metQ_but (w5 := w2) (v := ⟨x1, x2⟩) (G := w.heap.size + 1)) (oo.wide (by omega) (by omega)) aa m1 m2

/-- A call answers the span from N / D to N' / D' in memory of its own. -/
def OutS (w : World) (N D N' D' : Int) (e : Ending) (w' : World) : Prop := ∃ (v : SV) (xs us ys vs : List Int), e = .returned (.agg #[.bool v.lo.num.g, .slice v.lo.num.a v.lo.num.n v.lo.num.c, .bool v.lo.den.g, .slice v.lo.den.a v.lo.den.n v.lo.den.c, .bool v.hi.num.g, .slice v.hi.num.a v.hi.num.n v.hi.num.c, .bool v.hi.den.g, .slice v.hi.den.a v.hi.den.n v.hi.den.c]) ∧ Below w.heap.size w w' ∧ AllOwn w.heap.size w'.heap.size w' [(v.lo.num, ⟨decide (N < 0), xs⟩), (v.lo.den, ⟨decide (D < 0), us⟩), (v.hi.num, ⟨decide (N' < 0), ys⟩), (v.hi.den, ⟨decide (D' < 0), vs⟩)] ∧ AllAr w' [(v.lo.num, ⟨decide (N < 0), xs⟩), (v.lo.den, ⟨decide (D < 0), us⟩), (v.hi.num, ⟨decide (N' < 0), ys⟩), (v.hi.den, ⟨decide (D' < 0), vs⟩)] ∧ Nm xs N.natAbs ∧ Nm us D.natAbs ∧ Nm ys N'.natAbs ∧ Nm vs D'.natAbs
theorem outS_fin {w wN W : World} {R : Nat} {v : SV} {xs us ys vs : List Int} {N D N' D' : Int} (hR : w.heap.size ≤ R) (hb : Below w.heap.size w wN) (bt : But R (R + 1) wN W) (ho : AllOwn (R + 1) wN.heap.size wN [(v.lo.num, ⟨decide (N < 0), xs⟩), (v.lo.den, ⟨decide (D < 0), us⟩), (v.hi.num, ⟨decide (N' < 0), ys⟩), (v.hi.den, ⟨decide (D' < 0), vs⟩)]) (ha : AllAr wN [(v.lo.num, ⟨decide (N < 0), xs⟩), (v.lo.den, ⟨decide (D < 0), us⟩), (v.hi.num, ⟨decide (N' < 0), ys⟩), (v.hi.den, ⟨decide (D' < 0), vs⟩)]) (h1 : Nm xs N.natAbs) (h2 : Nm us D.natAbs) (h3 : Nm ys N'.natAbs) (h4 : Nm vs D'.natAbs) : OutS w N D N' D' (.returned (.agg #[.bool v.lo.num.g, .slice v.lo.num.a v.lo.num.n v.lo.num.c, .bool v.lo.den.g, .slice v.lo.den.a v.lo.den.n v.lo.den.c, .bool v.hi.num.g, .slice v.hi.num.a v.hi.num.n v.hi.num.c, .bool v.hi.den.g, .slice v.hi.den.a v.hi.den.n v.hi.den.c])) W :=
  ⟨v, xs, us, ys, vs, rfl, bt.below hb hR hb.size, (own_fin bt ho (Nat.le_refl _)).wide (by omega) bt.size, ar_fin bt ho ha (Nat.le_refl _), h1, h2, h3, h4⟩
end Go.Proofs.Ytlmeokeanihhoaa
namespace Go.Proofs.Ytlmeokeanihhoaa
open Go.RowKit
set_option linter.unusedVariables false
set_option maxRecDepth 100000
set_option linter.unusedSimpArgs false

/-- Two variables' boxes that hold fractions. -/
structure Two4 (wk wx : World) (G1 G2 : Nat) (q1 q2 : QV) : Prop where
  lo1 : wk.heap.size ≤ G1
  lo2 : wk.heap.size ≤ G2
  ne : G1 ≠ G2
  hi1 : G1 < wx.heap.size
  hi2 : G2 < wx.heap.size
  a0 : wx.cell? ⟨G1, 0, none⟩ = some (.bool q1.num.g)
  a1 : wx.cell? ⟨G1, 1, none⟩ = some (.slice q1.num.a q1.num.n q1.num.c)
  a2 : wx.cell? ⟨G1, 2, none⟩ = some (.bool q1.den.g)
  a3 : wx.cell? ⟨G1, 3, none⟩ = some (.slice q1.den.a q1.den.n q1.den.c)
  b0 : wx.cell? ⟨G2, 0, none⟩ = some (.bool q2.num.g)
  b1 : wx.cell? ⟨G2, 1, none⟩ = some (.slice q2.num.a q2.num.n q2.num.c)
  b2 : wx.cell? ⟨G2, 2, none⟩ = some (.bool q2.den.g)
  b3 : wx.cell? ⟨G2, 3, none⟩ = some (.slice q2.den.a q2.den.n q2.den.c)
  f1 : ∀ o, wx.frozen? ⟨G1, o, none⟩ = false
  f2 : ∀ o, wx.frozen? ⟨G2, o, none⟩ = false
  bel : Below wk.heap.size wk wx

end Go.Proofs.Ytlmeokeanihhoaa
namespace Go.Proofs.Ytlmeokeanihhoaa
open Go.RowKit
set_option linter.unusedVariables false
set_option maxRecDepth 100000
set_option linter.unusedSimpArgs false

def RetS (w : World) (U : SD → Bool → Prop) (e : Ending) (w' : World) : Prop := ∃ (v : SV) (d : SD) (ok : Bool), e = .returned (.tuple #[.agg #[.bool v.lo.num.g, .slice v.lo.num.a v.lo.num.n v.lo.num.c, .bool v.lo.den.g, .slice v.lo.den.a v.lo.den.n v.lo.den.c, .bool v.hi.num.g, .slice v.hi.num.a v.hi.num.n v.hi.num.c, .bool v.hi.den.g, .slice v.hi.den.a v.hi.den.n v.hi.den.c], .bool ok]) ∧ Below w.heap.size w w' ∧ AllOwn w.heap.size w'.heap.size w' [(v.lo.num, d.lo.num), (v.lo.den, d.lo.den), (v.hi.num, d.hi.num), (v.hi.den, d.hi.den)] ∧ U d ok
theorem zeroS (lo hi : Nat) (w : World) : AllOwn lo hi w [((⟨⟨⟨false, none, 0, 0⟩, ⟨false, none, 0, 0⟩⟩, ⟨⟨false, none, 0, 0⟩, ⟨false, none, 0, 0⟩⟩⟩ : SV).lo.num, (⟨⟨⟨false, []⟩, ⟨false, []⟩⟩, ⟨⟨false, []⟩, ⟨false, []⟩⟩⟩ : SD).lo.num), ((⟨⟨⟨false, none, 0, 0⟩, ⟨false, none, 0, 0⟩⟩, ⟨⟨false, none, 0, 0⟩, ⟨false, none, 0, 0⟩⟩⟩ : SV).lo.den, (⟨⟨⟨false, []⟩, ⟨false, []⟩⟩, ⟨⟨false, []⟩, ⟨false, []⟩⟩⟩ : SD).lo.den), ((⟨⟨⟨false, none, 0, 0⟩, ⟨false, none, 0, 0⟩⟩, ⟨⟨false, none, 0, 0⟩, ⟨false, none, 0, 0⟩⟩⟩ : SV).hi.num, (⟨⟨⟨false, []⟩, ⟨false, []⟩⟩, ⟨⟨false, []⟩, ⟨false, []⟩⟩⟩ : SD).hi.num), ((⟨⟨⟨false, none, 0, 0⟩, ⟨false, none, 0, 0⟩⟩, ⟨⟨false, none, 0, 0⟩, ⟨false, none, 0, 0⟩⟩⟩ : SV).hi.den, (⟨⟨⟨false, []⟩, ⟨false, []⟩⟩, ⟨⟨false, []⟩, ⟨false, []⟩⟩⟩ : SD).hi.den)] := ⟨fun p hp => by
  have hp : p = ((⟨false, none, 0, 0⟩ : BV), (⟨false, []⟩ : BD)) := by simpa using hp
  subst hp
  exact ⟨rfl, .inl rfl, rfl⟩, List.pairwise_cons.2 ⟨fun p hp => .inl rfl, List.pairwise_cons.2 ⟨fun p hp => .inl rfl, List.pairwise_cons.2 ⟨fun p hp => .inl rfl, List.pairwise_singleton _ _⟩⟩⟩⟩
def AnsS (P : Bool) (N D N' D' : Int) (d : SD) (ok : Bool) : Prop :=
  (P = true ∧ ∃ xs us ys vs, Nm xs N.natAbs ∧ Nm us D.natAbs ∧ Nm ys N'.natAbs ∧ Nm vs D'.natAbs ∧ (((xs.length ≤ 40 ∧ us.length ≤ 40) ∧ (ys.length ≤ 40 ∧ vs.length ≤ 40) ∧ ok = true ∧ d = (⟨⟨⟨decide (N < 0), xs⟩, ⟨decide (D < 0), us⟩⟩, ⟨⟨decide (N' < 0), ys⟩, ⟨decide (D' < 0), vs⟩⟩⟩ : SD)) ∨ (¬ ((xs.length ≤ 40 ∧ us.length ≤ 40) ∧ (ys.length ≤ 40 ∧ vs.length ≤ 40)) ∧ ok = false ∧ d = (⟨⟨⟨false, []⟩, ⟨false, []⟩⟩, ⟨⟨false, []⟩, ⟨false, []⟩⟩⟩ : SD)))) ∨ (P = false ∧ ok = false ∧ d = (⟨⟨⟨false, []⟩, ⟨false, []⟩⟩, ⟨⟨false, []⟩, ⟨false, []⟩⟩⟩ : SD))
theorem AnsS.same {P : Bool} {N D N' D' : Int} {d d' : SD} {ok ok' : Bool} (h : AnsS P N D N' D' d ok) (k : AnsS P N D N' D' d' ok') : d = d' ∧ ok = ok' := by
  rcases h with ⟨p, xs, us, ys, vs, h1, h2, h3, h4, h5⟩ | ⟨p, h1, h2⟩ <;> rcases k with ⟨p', xs', us', ys', vs', k1, k2, k3, k4, k5⟩ | ⟨p', k1, k2⟩
  · obtain rfl := h1.same k1
    obtain rfl := h2.same k2
    obtain rfl := h3.same k3
    obtain rfl := h4.same k4
    rcases h5 with ⟨a, b, c, e⟩ | ⟨a, c, e⟩ <;> rcases k5 with ⟨a', b', c', e'⟩ | ⟨a', c', e'⟩
    · exact ⟨e.trans e'.symm, c.trans c'.symm⟩
    · exact absurd ⟨a, b⟩ a'
    · exact absurd ⟨a', b'⟩ a
    · exact ⟨e.trans e'.symm, c.trans c'.symm⟩
  · rw [p] at p'; cases p'
  · rw [p] at p'; cases p'
  · exact ⟨h2.trans k2.symm, h1.trans k1.symm⟩
theorem AnsS.lens {P : Bool} {N D N' D' : Int} {d : SD} {ok : Bool} (h : AnsS P N D N' D' d ok) : d.lo.num.xs.length ≤ 40 ∧ d.lo.den.xs.length ≤ 40 ∧ d.hi.num.xs.length ≤ 40 ∧ d.hi.den.xs.length ≤ 40 := by
  rcases h with ⟨p, xs, us, ys, vs, h1, h2, h3, h4, ⟨a, b, c, rfl⟩ | ⟨a, c, rfl⟩⟩ | ⟨p, h1, rfl⟩
  · exact ⟨a.1, a.2, b.1, b.2⟩
  · simp
  · simp
theorem ansS_none (N D N' D' : Int) : AnsS false N D N' D' (⟨⟨⟨false, []⟩, ⟨false, []⟩⟩, ⟨⟨false, []⟩, ⟨false, []⟩⟩⟩ : SD) false := .inr ⟨rfl, rfl, rfl⟩
theorem retS_fin {w wN W : World} {R : Nat} {v : SV} {d : SD} {ok : Bool} {U : SD → Bool → Prop} (hR : w.heap.size ≤ R) (hb : Below w.heap.size w wN) (bt : But R (R + 1) wN W)
    (ho : AllOwn (R + 1) wN.heap.size wN [(v.lo.num, d.lo.num), (v.lo.den, d.lo.den), (v.hi.num, d.hi.num), (v.hi.den, d.hi.den)]) (hu : U d ok) : RetS w U (.returned (.tuple #[.agg #[.bool v.lo.num.g, .slice v.lo.num.a v.lo.num.n v.lo.num.c, .bool v.lo.den.g, .slice v.lo.den.a v.lo.den.n v.lo.den.c, .bool v.hi.num.g, .slice v.hi.num.a v.hi.num.n v.hi.num.c, .bool v.hi.den.g, .slice v.hi.den.a v.hi.den.n v.hi.den.c], .bool ok])) W :=
  ⟨v, d, ok, rfl, bt.below hb hR hb.size, (own_fin bt ho (Nat.le_refl _)).wide (by omega) bt.size, hu⟩
/-- Two answers make one. -/
theorem ansS_two {N D N' D' : Int} {d d' : QD} {ok ok' : Bool} (h : AnsQ true N D d ok) (k : AnsQ true N' D' d' ok') : AnsS true N D N' D' (if ok && ok' then ⟨d, d'⟩ else (⟨⟨⟨false, []⟩, ⟨false, []⟩⟩, ⟨⟨false, []⟩, ⟨false, []⟩⟩⟩ : SD)) (ok && ok') := by
  rcases h with ⟨_, xs, us, h1, h2, h3⟩ | ⟨p, _⟩
  · rcases k with ⟨_, ys, vs, k1, k2, k3⟩ | ⟨p, _⟩
    · refine .inl ⟨rfl, xs, us, ys, vs, h1, h2, k1, k2, ?_⟩
      rcases h3 with ⟨a, b, rfl, rfl⟩ | ⟨a, rfl, rfl⟩ <;> rcases k3 with ⟨a', b', rfl, rfl⟩ | ⟨a', rfl, rfl⟩
      · exact .inl ⟨⟨a, b⟩, ⟨a', b'⟩, rfl, rfl⟩
      · exact .inr ⟨fun h => a' h.2, rfl, rfl⟩
      · exact .inr ⟨fun h => a h.1, rfl, rfl⟩
      · exact .inr ⟨fun h => a h.1, rfl, rfl⟩
    · cases p
  · cases p

set_option maxHeartbeats 4000000 in
theorem fitsSS (v : SV) (N D N' D' : Int) (w : World) (h : IsQ w v.lo N D) (h' : IsQ w v.hi N' D') (hD : 0 < D) (hD' : 0 < D') :
    Calls Try.prog 99 #[.agg #[.bool v.lo.num.g, .slice v.lo.num.a v.lo.num.n v.lo.num.c, .bool v.lo.den.g, .slice v.lo.den.a v.lo.den.n v.lo.den.c, .bool v.hi.num.g, .slice v.hi.num.a v.hi.num.n v.hi.num.c, .bool v.hi.den.g, .slice v.hi.den.a v.hi.den.n v.hi.den.c]] w (RetS w (AnsS true N D N' D')) := by
  have H1 := hide h
  have H2 := hide h'
  have HD := hide (And.intro hD hD')
  clear h h' hD hD'
  have B0 := hide (show Below w.heap.size w ((w.alloc (.cells #[.bool v.lo.num.g, .slice v.lo.num.a v.lo.num.n v.lo.num.c, .bool v.lo.den.g, .slice v.lo.den.a v.lo.den.n v.lo.den.c, .bool v.hi.num.g, .slice v.hi.num.a v.hi.num.n v.hi.num.c, .bool v.hi.den.g, .slice v.hi.den.a v.hi.den.n v.hi.den.c] 41)).alloc (.cells #[.bool false, .slice none 0 0, .bool false, .slice none 0 0, .bool false, .slice none 0 0, .bool false, .slice none 0 0] 41)) from (((Below.refl _ _).alloc (by simp) _).alloc (by simp) _))
  go_enter Try.func99, Try.ntmps99
  go_wp2_with fail
  refine (fitsQS v.lo N D _ ((unhide H1).later (unhide B0)) (unhide HD).1).mono ?_
  rintro e w1 ⟨r1, d1, o1, rfl, hb, ov1, hu1⟩
  have s1 : w.heap.size + 1 + 1 ≤ w1.heap.size := by have := hb.size; simp at this; omega
  have U1 := hide hu1
  replace ov1 := ov1.wide (lo' := w.heap.size + 1 + 1) (by simp) (Nat.le_refl _)
  have k0_4 : w1.cell? ⟨w.heap.size, 4, none⟩ = some (.bool v.hi.num.g) := cell_later hb (by simp [go_sem])
  have k0_5 : w1.cell? ⟨w.heap.size, 5, none⟩ = some (.slice v.hi.num.a v.hi.num.n v.hi.num.c) := cell_later hb (by simp [go_sem])
  have k0_6 : w1.cell? ⟨w.heap.size, 6, none⟩ = some (.bool v.hi.den.g) := cell_later hb (by simp [go_sem])
  have k0_7 : w1.cell? ⟨w.heap.size, 7, none⟩ = some (.slice v.hi.den.a v.hi.den.n v.hi.den.c) := cell_later hb (by simp [go_sem])
  have k1_0 : w1.cell? ⟨w.heap.size + 1, 0, none⟩ = some (.bool false) := cell_later hb (by simp [go_sem])
  have k1_1 : w1.cell? ⟨w.heap.size + 1, 1, none⟩ = some (.slice none 0 0) := cell_later hb (by simp [go_sem])
  have k1_2 : w1.cell? ⟨w.heap.size + 1, 2, none⟩ = some (.bool false) := cell_later hb (by simp [go_sem])
  have k1_3 : w1.cell? ⟨w.heap.size + 1, 3, none⟩ = some (.slice none 0 0) := cell_later hb (by simp [go_sem])
  have k1_4 : w1.cell? ⟨w.heap.size + 1, 4, none⟩ = some (.bool false) := cell_later hb (by simp [go_sem])
  have k1_5 : w1.cell? ⟨w.heap.size + 1, 5, none⟩ = some (.slice none 0 0) := cell_later hb (by simp [go_sem])
  have k1_6 : w1.cell? ⟨w.heap.size + 1, 6, none⟩ = some (.bool false) := cell_later hb (by simp [go_sem])
  have k1_7 : w1.cell? ⟨w.heap.size + 1, 7, none⟩ = some (.slice none 0 0) := cell_later hb (by simp [go_sem])
  have z1 : ∀ o, w1.frozen? ⟨w.heap.size + 1, o, none⟩ = false := fun o => frozen_later hb (by simp) (by simp [go_sem])
  have OV1 := hide (ov1)
  have HB := hide (below_on (unhide B0) hb)
  clear hb
  clear ov1 hu1
  have k0_4u : (w1.alloc (.cells #[.bool r1.num.g, .slice r1.num.a r1.num.n r1.num.c, .bool r1.den.g, .slice r1.den.a r1.den.n r1.den.c] 30)).cell? ⟨w.heap.size, 4, none⟩ = some (.bool v.hi.num.g) := (ca_other k0_4)
  have k0_5u : (w1.alloc (.cells #[.bool r1.num.g, .slice r1.num.a r1.num.n r1.num.c, .bool r1.den.g, .slice r1.den.a r1.den.n r1.den.c] 30)).cell? ⟨w.heap.size, 5, none⟩ = some (.slice v.hi.num.a v.hi.num.n v.hi.num.c) := (ca_other k0_5)
  have k0_6u : (w1.alloc (.cells #[.bool r1.num.g, .slice r1.num.a r1.num.n r1.num.c, .bool r1.den.g, .slice r1.den.a r1.den.n r1.den.c] 30)).cell? ⟨w.heap.size, 6, none⟩ = some (.bool v.hi.den.g) := (ca_other k0_6)
  have k0_7u : (w1.alloc (.cells #[.bool r1.num.g, .slice r1.num.a r1.num.n r1.num.c, .bool r1.den.g, .slice r1.den.a r1.den.n r1.den.c] 30)).cell? ⟨w.heap.size, 7, none⟩ = some (.slice v.hi.den.a v.hi.den.n v.hi.den.c) := (ca_other k0_7)
  have k1_0u : (w1.alloc (.cells #[.bool r1.num.g, .slice r1.num.a r1.num.n r1.num.c, .bool r1.den.g, .slice r1.den.a r1.den.n r1.den.c] 30)).cell? ⟨w.heap.size + 1, 0, none⟩ = some (.bool false) := (ca_other k1_0)
  have k1_1u : (w1.alloc (.cells #[.bool r1.num.g, .slice r1.num.a r1.num.n r1.num.c, .bool r1.den.g, .slice r1.den.a r1.den.n r1.den.c] 30)).cell? ⟨w.heap.size + 1, 1, none⟩ = some (.slice none 0 0) := (ca_other k1_1)
  have k1_2u : (w1.alloc (.cells #[.bool r1.num.g, .slice r1.num.a r1.num.n r1.num.c, .bool r1.den.g, .slice r1.den.a r1.den.n r1.den.c] 30)).cell? ⟨w.heap.size + 1, 2, none⟩ = some (.bool false) := (ca_other k1_2)
  have k1_3u : (w1.alloc (.cells #[.bool r1.num.g, .slice r1.num.a r1.num.n r1.num.c, .bool r1.den.g, .slice r1.den.a r1.den.n r1.den.c] 30)).cell? ⟨w.heap.size + 1, 3, none⟩ = some (.slice none 0 0) := (ca_other k1_3)
  have k1_4u : (w1.alloc (.cells #[.bool r1.num.g, .slice r1.num.a r1.num.n r1.num.c, .bool r1.den.g, .slice r1.den.a r1.den.n r1.den.c] 30)).cell? ⟨w.heap.size + 1, 4, none⟩ = some (.bool false) := (ca_other k1_4)
  have k1_5u : (w1.alloc (.cells #[.bool r1.num.g, .slice r1.num.a r1.num.n r1.num.c, .bool r1.den.g, .slice r1.den.a r1.den.n r1.den.c] 30)).cell? ⟨w.heap.size + 1, 5, none⟩ = some (.slice none 0 0) := (ca_other k1_5)
  have k1_6u : (w1.alloc (.cells #[.bool r1.num.g, .slice r1.num.a r1.num.n r1.num.c, .bool r1.den.g, .slice r1.den.a r1.den.n r1.den.c] 30)).cell? ⟨w.heap.size + 1, 6, none⟩ = some (.bool false) := (ca_other k1_6)
  have k1_7u : (w1.alloc (.cells #[.bool r1.num.g, .slice r1.num.a r1.num.n r1.num.c, .bool r1.den.g, .slice r1.den.a r1.den.n r1.den.c] 30)).cell? ⟨w.heap.size + 1, 7, none⟩ = some (.slice none 0 0) := (ca_other k1_7)
  go_wp2_with fail
  refine (fitsQS v.hi N' D' _ ((unhide H2).later (below_on (unhide HB) ((Below.refl _ _).alloc (by simp) _))) (unhide HD).2).mono ?_
  rintro e w2 ⟨r2, d2, o2, rfl, hb, ov2, hu2⟩
  clear k0_4u k0_5u k0_6u k0_7u k1_0u k1_1u k1_2u k1_3u k1_4u k1_5u k1_6u k1_7u
  have s2 : w1.heap.size ≤ w2.heap.size := by have := hb.size; simp at this; omega
  have U2 := hide hu2
  replace ov2 := ov2.wide (lo' := w1.heap.size) (by simp) (Nat.le_refl _)
  have hbx := ba (hb)
  replace z1 := fun o => frozen_later hbx (World.block_lt_of_cell? _ _ k1_0) (z1 o)
  replace k1_0 := cell_later hbx k1_0
  replace k1_1 := cell_later hbx k1_1
  replace k1_2 := cell_later hbx k1_2
  replace k1_3 := cell_later hbx k1_3
  replace k1_4 := cell_later hbx k1_4
  replace k1_5 := cell_later hbx k1_5
  replace k1_6 := cell_later hbx k1_6
  replace k1_7 := cell_later hbx k1_7
  have k2_0 : w2.cell? ⟨w1.heap.size, 0, none⟩ = some (.bool r1.num.g) := cell_later hb (by simp [go_sem])
  have k2_1 : w2.cell? ⟨w1.heap.size, 1, none⟩ = some (.slice r1.num.a r1.num.n r1.num.c) := cell_later hb (by simp [go_sem])
  have k2_2 : w2.cell? ⟨w1.heap.size, 2, none⟩ = some (.bool r1.den.g) := cell_later hb (by simp [go_sem])
  have k2_3 : w2.cell? ⟨w1.heap.size, 3, none⟩ = some (.slice r1.den.a r1.den.n r1.den.c) := cell_later hb (by simp [go_sem])
  clear k0_4 k0_5 k0_6 k0_7
  replace OV1 := hide ((unhide OV1).later hbx)
  have OV2 := hide (ov2)
  replace HB := hide (below_on (unhide HB) hbx)
  clear hbx hb
  clear ov2 hu2
  cases o1
  · cases o2
    · go_upto_region 4 with fail
      have hb : Below w2.heap.size w2 (w2.alloc (.cells #[.bool r2.num.g, .slice r2.num.a r2.num.n r2.num.c, .bool r2.den.g, .slice r2.den.a r2.den.n r2.den.c] 30)) := ((Below.refl _ _).alloc (by simp) _)
      replace k1_0 : (w2.alloc (.cells #[.bool r2.num.g, .slice r2.num.a r2.num.n r2.num.c, .bool r2.den.g, .slice r2.den.a r2.den.n r2.den.c] 30)).cell? ⟨w.heap.size + 1, 0, none⟩ = some (.bool false) := (ca_other k1_0)
      replace k1_1 : (w2.alloc (.cells #[.bool r2.num.g, .slice r2.num.a r2.num.n r2.num.c, .bool r2.den.g, .slice r2.den.a r2.den.n r2.den.c] 30)).cell? ⟨w.heap.size + 1, 1, none⟩ = some (.slice none 0 0) := (ca_other k1_1)
      replace k1_2 : (w2.alloc (.cells #[.bool r2.num.g, .slice r2.num.a r2.num.n r2.num.c, .bool r2.den.g, .slice r2.den.a r2.den.n r2.den.c] 30)).cell? ⟨w.heap.size + 1, 2, none⟩ = some (.bool false) := (ca_other k1_2)
      replace k1_3 : (w2.alloc (.cells #[.bool r2.num.g, .slice r2.num.a r2.num.n r2.num.c, .bool r2.den.g, .slice r2.den.a r2.den.n r2.den.c] 30)).cell? ⟨w.heap.size + 1, 3, none⟩ = some (.slice none 0 0) := (ca_other k1_3)
      replace k1_4 : (w2.alloc (.cells #[.bool r2.num.g, .slice r2.num.a r2.num.n r2.num.c, .bool r2.den.g, .slice r2.den.a r2.den.n r2.den.c] 30)).cell? ⟨w.heap.size + 1, 4, none⟩ = some (.bool false) := (ca_other k1_4)
      replace k1_5 : (w2.alloc (.cells #[.bool r2.num.g, .slice r2.num.a r2.num.n r2.num.c, .bool r2.den.g, .slice r2.den.a r2.den.n r2.den.c] 30)).cell? ⟨w.heap.size + 1, 5, none⟩ = some (.slice none 0 0) := (ca_other k1_5)
      replace k1_6 : (w2.alloc (.cells #[.bool r2.num.g, .slice r2.num.a r2.num.n r2.num.c, .bool r2.den.g, .slice r2.den.a r2.den.n r2.den.c] 30)).cell? ⟨w.heap.size + 1, 6, none⟩ = some (.bool false) := (ca_other k1_6)
      replace k1_7 : (w2.alloc (.cells #[.bool r2.num.g, .slice r2.num.a r2.num.n r2.num.c, .bool r2.den.g, .slice r2.den.a r2.den.n r2.den.c] 30)).cell? ⟨w.heap.size + 1, 7, none⟩ = some (.slice none 0 0) := (ca_other k1_7)
      replace z1 : ∀ o, (w2.alloc (.cells #[.bool r2.num.g, .slice r2.num.a r2.num.n r2.num.c, .bool r2.den.g, .slice r2.den.a r2.den.n r2.den.c] 30)).frozen? ⟨w.heap.size + 1, o, none⟩ = false := fun o => frozen_later hb (by omega) (z1 o)
      clear k2_0 k2_1 k2_2 k2_3
      replace OV1 := hide ((unhide OV1).later hb)
      replace OV2 := hide ((unhide OV2).later hb)
      replace HB := hide (below_on (unhide HB) hb)
      have szw3 := hb.size
      clear hb
      generalize (w2.alloc (.cells #[.bool r2.num.g, .slice r2.num.a r2.num.n r2.num.c, .bool r2.den.g, .slice r2.den.a r2.den.n r2.den.c] 30)) = w3 at *
      have UU := hide (ansS_two (unhide U1) (unhide U2))
      go_wp2
      refine bodyPost_ret (v := .tuple #[.agg #[.bool false, .slice none 0 0, .bool false, .slice none 0 0, .bool false, .slice none 0 0, .bool false, .slice none 0 0], .bool false]) (by simp [results, Try.results99, go_sem, k1_0, k1_1, k1_2, k1_3, k1_4, k1_5, k1_6, k1_7]) rfl ?_
      exact retS_fin (v := (⟨⟨⟨false, none, 0, 0⟩, ⟨false, none, 0, 0⟩⟩, ⟨⟨false, none, 0, 0⟩, ⟨false, none, 0, 0⟩⟩⟩ : SV)) (d := (⟨⟨⟨false, []⟩, ⟨false, []⟩⟩, ⟨⟨false, []⟩, ⟨false, []⟩⟩⟩ : SD)) (R := w.heap.size + 1) (by omega) (unhide HB) (metS_but (w5 := w3) (v := (⟨⟨⟨false, none, 0, 0⟩, ⟨false, none, 0, 0⟩⟩, ⟨⟨false, none, 0, 0⟩, ⟨false, none, 0, 0⟩⟩⟩ : SV)) (G := w.heap.size + 1)) (zeroS _ _ _) (unhide UU)
    · go_upto_region 4 with fail
      have hb : Below w2.heap.size w2 (w2.alloc (.cells #[.bool r2.num.g, .slice r2.num.a r2.num.n r2.num.c, .bool r2.den.g, .slice r2.den.a r2.den.n r2.den.c] 30)) := ((Below.refl _ _).alloc (by simp) _)
      replace k1_0 : (w2.alloc (.cells #[.bool r2.num.g, .slice r2.num.a r2.num.n r2.num.c, .bool r2.den.g, .slice r2.den.a r2.den.n r2.den.c] 30)).cell? ⟨w.heap.size + 1, 0, none⟩ = some (.bool false) := (ca_other k1_0)
      replace k1_1 : (w2.alloc (.cells #[.bool r2.num.g, .slice r2.num.a r2.num.n r2.num.c, .bool r2.den.g, .slice r2.den.a r2.den.n r2.den.c] 30)).cell? ⟨w.heap.size + 1, 1, none⟩ = some (.slice none 0 0) := (ca_other k1_1)
      replace k1_2 : (w2.alloc (.cells #[.bool r2.num.g, .slice r2.num.a r2.num.n r2.num.c, .bool r2.den.g, .slice r2.den.a r2.den.n r2.den.c] 30)).cell? ⟨w.heap.size + 1, 2, none⟩ = some (.bool false) := (ca_other k1_2)
      replace k1_3 : (w2.alloc (.cells #[.bool r2.num.g, .slice r2.num.a r2.num.n r2.num.c, .bool r2.den.g, .slice r2.den.a r2.den.n r2.den.c] 30)).cell? ⟨w.heap.size + 1, 3, none⟩ = some (.slice none 0 0) := (ca_other k1_3)
      replace k1_4 : (w2.alloc (.cells #[.bool r2.num.g, .slice r2.num.a r2.num.n r2.num.c, .bool r2.den.g, .slice r2.den.a r2.den.n r2.den.c] 30)).cell? ⟨w.heap.size + 1, 4, none⟩ = some (.bool false) := (ca_other k1_4)
      replace k1_5 : (w2.alloc (.cells #[.bool r2.num.g, .slice r2.num.a r2.num.n r2.num.c, .bool r2.den.g, .slice r2.den.a r2.den.n r2.den.c] 30)).cell? ⟨w.heap.size + 1, 5, none⟩ = some (.slice none 0 0) := (ca_other k1_5)
      replace k1_6 : (w2.alloc (.cells #[.bool r2.num.g, .slice r2.num.a r2.num.n r2.num.c, .bool r2.den.g, .slice r2.den.a r2.den.n r2.den.c] 30)).cell? ⟨w.heap.size + 1, 6, none⟩ = some (.bool false) := (ca_other k1_6)
      replace k1_7 : (w2.alloc (.cells #[.bool r2.num.g, .slice r2.num.a r2.num.n r2.num.c, .bool r2.den.g, .slice r2.den.a r2.den.n r2.den.c] 30)).cell? ⟨w.heap.size + 1, 7, none⟩ = some (.slice none 0 0) := (ca_other k1_7)
      replace z1 : ∀ o, (w2.alloc (.cells #[.bool r2.num.g, .slice r2.num.a r2.num.n r2.num.c, .bool r2.den.g, .slice r2.den.a r2.den.n r2.den.c] 30)).frozen? ⟨w.heap.size + 1, o, none⟩ = false := fun o => frozen_later hb (by omega) (z1 o)
      clear k2_0 k2_1 k2_2 k2_3
      replace OV1 := hide ((unhide OV1).later hb)
      replace OV2 := hide ((unhide OV2).later hb)
      replace HB := hide (below_on (unhide HB) hb)
      have szw3 := hb.size
      clear hb
      generalize (w2.alloc (.cells #[.bool r2.num.g, .slice r2.num.a r2.num.n r2.num.c, .bool r2.den.g, .slice r2.den.a r2.den.n r2.den.c] 30)) = w3 at *
      have UU := hide (ansS_two (unhide U1) (unhide U2))
      go_wp2
      refine bodyPost_ret (v := .tuple #[.agg #[.bool false, .slice none 0 0, .bool false, .slice none 0 0, .bool false, .slice none 0 0, .bool false, .slice none 0 0], .bool false]) (by simp [results, Try.results99, go_sem, k1_0, k1_1, k1_2, k1_3, k1_4, k1_5, k1_6, k1_7]) rfl ?_
      exact retS_fin (v := (⟨⟨⟨false, none, 0, 0⟩, ⟨false, none, 0, 0⟩⟩, ⟨⟨false, none, 0, 0⟩, ⟨false, none, 0, 0⟩⟩⟩ : SV)) (d := (⟨⟨⟨false, []⟩, ⟨false, []⟩⟩, ⟨⟨false, []⟩, ⟨false, []⟩⟩⟩ : SD)) (R := w.heap.size + 1) (by omega) (unhide HB) (metS_but (w5 := w3) (v := (⟨⟨⟨false, none, 0, 0⟩, ⟨false, none, 0, 0⟩⟩, ⟨⟨false, none, 0, 0⟩, ⟨false, none, 0, 0⟩⟩⟩ : SV)) (G := w.heap.size + 1)) (zeroS _ _ _) (unhide UU)
  · cases o2
    · go_upto_region 4 with fail
      have hb : Below w2.heap.size w2 (w2.alloc (.cells #[.bool r2.num.g, .slice r2.num.a r2.num.n r2.num.c, .bool r2.den.g, .slice r2.den.a r2.den.n r2.den.c] 30)) := ((Below.refl _ _).alloc (by simp) _)
      replace k1_0 : (w2.alloc (.cells #[.bool r2.num.g, .slice r2.num.a r2.num.n r2.num.c, .bool r2.den.g, .slice r2.den.a r2.den.n r2.den.c] 30)).cell? ⟨w.heap.size + 1, 0, none⟩ = some (.bool false) := (ca_other k1_0)
      replace k1_1 : (w2.alloc (.cells #[.bool r2.num.g, .slice r2.num.a r2.num.n r2.num.c, .bool r2.den.g, .slice r2.den.a r2.den.n r2.den.c] 30)).cell? ⟨w.heap.size + 1, 1, none⟩ = some (.slice none 0 0) := (ca_other k1_1)
      replace k1_2 : (w2.alloc (.cells #[.bool r2.num.g, .slice r2.num.a r2.num.n r2.num.c, .bool r2.den.g, .slice r2.den.a r2.den.n r2.den.c] 30)).cell? ⟨w.heap.size + 1, 2, none⟩ = some (.bool false) := (ca_other k1_2)
      replace k1_3 : (w2.alloc (.cells #[.bool r2.num.g, .slice r2.num.a r2.num.n r2.num.c, .bool r2.den.g, .slice r2.den.a r2.den.n r2.den.c] 30)).cell? ⟨w.heap.size + 1, 3, none⟩ = some (.slice none 0 0) := (ca_other k1_3)
      replace k1_4 : (w2.alloc (.cells #[.bool r2.num.g, .slice r2.num.a r2.num.n r2.num.c, .bool r2.den.g, .slice r2.den.a r2.den.n r2.den.c] 30)).cell? ⟨w.heap.size + 1, 4, none⟩ = some (.bool false) := (ca_other k1_4)
      replace k1_5 : (w2.alloc (.cells #[.bool r2.num.g, .slice r2.num.a r2.num.n r2.num.c, .bool r2.den.g, .slice r2.den.a r2.den.n r2.den.c] 30)).cell? ⟨w.heap.size + 1, 5, none⟩ = some (.slice none 0 0) := (ca_other k1_5)
      replace k1_6 : (w2.alloc (.cells #[.bool r2.num.g, .slice r2.num.a r2.num.n r2.num.c, .bool r2.den.g, .slice r2.den.a r2.den.n r2.den.c] 30)).cell? ⟨w.heap.size + 1, 6, none⟩ = some (.bool false) := (ca_other k1_6)
      replace k1_7 : (w2.alloc (.cells #[.bool r2.num.g, .slice r2.num.a r2.num.n r2.num.c, .bool r2.den.g, .slice r2.den.a r2.den.n r2.den.c] 30)).cell? ⟨w.heap.size + 1, 7, none⟩ = some (.slice none 0 0) := (ca_other k1_7)
      replace z1 : ∀ o, (w2.alloc (.cells #[.bool r2.num.g, .slice r2.num.a r2.num.n r2.num.c, .bool r2.den.g, .slice r2.den.a r2.den.n r2.den.c] 30)).frozen? ⟨w.heap.size + 1, o, none⟩ = false := fun o => frozen_later hb (by omega) (z1 o)
      clear k2_0 k2_1 k2_2 k2_3
      replace OV1 := hide ((unhide OV1).later hb)
      replace OV2 := hide ((unhide OV2).later hb)
      replace HB := hide (below_on (unhide HB) hb)
      have szw3 := hb.size
      clear hb
      generalize (w2.alloc (.cells #[.bool r2.num.g, .slice r2.num.a r2.num.n r2.num.c, .bool r2.den.g, .slice r2.den.a r2.den.n r2.den.c] 30)) = w3 at *
      have UU := hide (ansS_two (unhide U1) (unhide U2))
      go_wp2
      refine bodyPost_ret (v := .tuple #[.agg #[.bool false, .slice none 0 0, .bool false, .slice none 0 0, .bool false, .slice none 0 0, .bool false, .slice none 0 0], .bool false]) (by simp [results, Try.results99, go_sem, k1_0, k1_1, k1_2, k1_3, k1_4, k1_5, k1_6, k1_7]) rfl ?_
      exact retS_fin (v := (⟨⟨⟨false, none, 0, 0⟩, ⟨false, none, 0, 0⟩⟩, ⟨⟨false, none, 0, 0⟩, ⟨false, none, 0, 0⟩⟩⟩ : SV)) (d := (⟨⟨⟨false, []⟩, ⟨false, []⟩⟩, ⟨⟨false, []⟩, ⟨false, []⟩⟩⟩ : SD)) (R := w.heap.size + 1) (by omega) (unhide HB) (metS_but (w5 := w3) (v := (⟨⟨⟨false, none, 0, 0⟩, ⟨false, none, 0, 0⟩⟩, ⟨⟨false, none, 0, 0⟩, ⟨false, none, 0, 0⟩⟩⟩ : SV)) (G := w.heap.size + 1)) (zeroS _ _ _) (unhide UU)
    · go_upto_region 5 with fail
      have hb : Below w2.heap.size w2 (w2.alloc (.cells #[.bool r2.num.g, .slice r2.num.a r2.num.n r2.num.c, .bool r2.den.g, .slice r2.den.a r2.den.n r2.den.c] 30)) := ((Below.refl _ _).alloc (by simp) _)
      replace k2_0 : (w2.alloc (.cells #[.bool r2.num.g, .slice r2.num.a r2.num.n r2.num.c, .bool r2.den.g, .slice r2.den.a r2.den.n r2.den.c] 30)).cell? ⟨w1.heap.size, 0, none⟩ = some (.bool r1.num.g) := (ca_other k2_0)
      replace k2_1 : (w2.alloc (.cells #[.bool r2.num.g, .slice r2.num.a r2.num.n r2.num.c, .bool r2.den.g, .slice r2.den.a r2.den.n r2.den.c] 30)).cell? ⟨w1.heap.size, 1, none⟩ = some (.slice r1.num.a r1.num.n r1.num.c) := (ca_other k2_1)
      replace k2_2 : (w2.alloc (.cells #[.bool r2.num.g, .slice r2.num.a r2.num.n r2.num.c, .bool r2.den.g, .slice r2.den.a r2.den.n r2.den.c] 30)).cell? ⟨w1.heap.size, 2, none⟩ = some (.bool r1.den.g) := (ca_other k2_2)
      replace k2_3 : (w2.alloc (.cells #[.bool r2.num.g, .slice r2.num.a r2.num.n r2.num.c, .bool r2.den.g, .slice r2.den.a r2.den.n r2.den.c] 30)).cell? ⟨w1.heap.size, 3, none⟩ = some (.slice r1.den.a r1.den.n r1.den.c) := (ca_other k2_3)
      have k3_0 : (w2.alloc (.cells #[.bool r2.num.g, .slice r2.num.a r2.num.n r2.num.c, .bool r2.den.g, .slice r2.den.a r2.den.n r2.den.c] 30)).cell? ⟨w2.heap.size, 0, none⟩ = some (.bool r2.num.g) := by simp [go_sem]
      have k3_1 : (w2.alloc (.cells #[.bool r2.num.g, .slice r2.num.a r2.num.n r2.num.c, .bool r2.den.g, .slice r2.den.a r2.den.n r2.den.c] 30)).cell? ⟨w2.heap.size, 1, none⟩ = some (.slice r2.num.a r2.num.n r2.num.c) := by simp [go_sem]
      have k3_2 : (w2.alloc (.cells #[.bool r2.num.g, .slice r2.num.a r2.num.n r2.num.c, .bool r2.den.g, .slice r2.den.a r2.den.n r2.den.c] 30)).cell? ⟨w2.heap.size, 2, none⟩ = some (.bool r2.den.g) := by simp [go_sem]
      have k3_3 : (w2.alloc (.cells #[.bool r2.num.g, .slice r2.num.a r2.num.n r2.num.c, .bool r2.den.g, .slice r2.den.a r2.den.n r2.den.c] 30)).cell? ⟨w2.heap.size, 3, none⟩ = some (.slice r2.den.a r2.den.n r2.den.c) := by simp [go_sem]
      replace k1_0 : (w2.alloc (.cells #[.bool r2.num.g, .slice r2.num.a r2.num.n r2.num.c, .bool r2.den.g, .slice r2.den.a r2.den.n r2.den.c] 30)).cell? ⟨w.heap.size + 1, 0, none⟩ = some (.bool false) := (ca_other k1_0)
      replace k1_1 : (w2.alloc (.cells #[.bool r2.num.g, .slice r2.num.a r2.num.n r2.num.c, .bool r2.den.g, .slice r2.den.a r2.den.n r2.den.c] 30)).cell? ⟨w.heap.size + 1, 1, none⟩ = some (.slice none 0 0) := (ca_other k1_1)
      replace k1_2 : (w2.alloc (.cells #[.bool r2.num.g, .slice r2.num.a r2.num.n r2.num.c, .bool r2.den.g, .slice r2.den.a r2.den.n r2.den.c] 30)).cell? ⟨w.heap.size + 1, 2, none⟩ = some (.bool false) := (ca_other k1_2)
      replace k1_3 : (w2.alloc (.cells #[.bool r2.num.g, .slice r2.num.a r2.num.n r2.num.c, .bool r2.den.g, .slice r2.den.a r2.den.n r2.den.c] 30)).cell? ⟨w.heap.size + 1, 3, none⟩ = some (.slice none 0 0) := (ca_other k1_3)
      replace k1_4 : (w2.alloc (.cells #[.bool r2.num.g, .slice r2.num.a r2.num.n r2.num.c, .bool r2.den.g, .slice r2.den.a r2.den.n r2.den.c] 30)).cell? ⟨w.heap.size + 1, 4, none⟩ = some (.bool false) := (ca_other k1_4)
      replace k1_5 : (w2.alloc (.cells #[.bool r2.num.g, .slice r2.num.a r2.num.n r2.num.c, .bool r2.den.g, .slice r2.den.a r2.den.n r2.den.c] 30)).cell? ⟨w.heap.size + 1, 5, none⟩ = some (.slice none 0 0) := (ca_other k1_5)
      replace k1_6 : (w2.alloc (.cells #[.bool r2.num.g, .slice r2.num.a r2.num.n r2.num.c, .bool r2.den.g, .slice r2.den.a r2.den.n r2.den.c] 30)).cell? ⟨w.heap.size + 1, 6, none⟩ = some (.bool false) := (ca_other k1_6)
      replace k1_7 : (w2.alloc (.cells #[.bool r2.num.g, .slice r2.num.a r2.num.n r2.num.c, .bool r2.den.g, .slice r2.den.a r2.den.n r2.den.c] 30)).cell? ⟨w.heap.size + 1, 7, none⟩ = some (.slice none 0 0) := (ca_other k1_7)
      replace z1 : ∀ o, (w2.alloc (.cells #[.bool r2.num.g, .slice r2.num.a r2.num.n r2.num.c, .bool r2.den.g, .slice r2.den.a r2.den.n r2.den.c] 30)).frozen? ⟨w.heap.size + 1, o, none⟩ = false := fun o => frozen_later hb (by omega) (z1 o)
      replace OV1 := hide ((unhide OV1).later hb)
      replace OV2 := hide ((unhide OV2).later hb)
      replace HB := hide (below_on (unhide HB) hb)
      have szw3 := hb.size
      clear hb
      generalize (w2.alloc (.cells #[.bool r2.num.g, .slice r2.num.a r2.num.n r2.num.c, .bool r2.den.g, .slice r2.den.a r2.den.n r2.den.c] 30)) = w3 at *
      have OO := hide (((unhide OV1).join (unhide OV2) s1 s2).wide (Nat.le_refl _) (hi' := w3.heap.size) (by omega))
      have UU := hide (ansS_two (unhide U1) (unhide U2))
      go_wp2
      refine bodyPost_ret (v := .tuple #[.agg #[.bool r1.num.g, .slice r1.num.a r1.num.n r1.num.c, .bool r1.den.g, .slice r1.den.a r1.den.n r1.den.c, .bool r2.num.g, .slice r2.num.a r2.num.n r2.num.c, .bool r2.den.g, .slice r2.den.a r2.den.n r2.den.c], .bool true]) (by simp [results, Try.results99, go_sem, k1_0, k1_1, k1_2, k1_3, k1_4, k1_5, k1_6, k1_7]) rfl ?_
      exact retS_fin (v := ⟨r1, r2⟩) (d := ⟨d1, d2⟩) (R := w.heap.size + 1) (by omega) (unhide HB) (metS_but (w5 := w3) (v := ⟨r1, r2⟩) (G := w.heap.size + 1)) (unhide OO) (unhide UU)

end Go.Proofs.Ytlmeokeanihhoaa
namespace Go.Proofs.Ytlmeokeanihhoaa
open Go.RowKit
set_option linter.unusedVariables false
set_option maxRecDepth 100000
set_option linter.unusedSimpArgs false

def inQ (d : SD) (e : QD) : Bool := decide (nQ d.lo * dQ e ≤ nQ e * dQ d.lo) && decide (nQ e * dQ d.hi ≤ nQ d.hi * dQ e)
set_option maxHeartbeats 4000000 in
theorem l3In_v (v : SV) (q : QV) (d : SD) (e : QD) (w : World) (j1 : IsGoodS w v d) (j2 : IsGood w q e) :
    Calls Try.prog 106 #[.agg #[.bool v.lo.num.g, .slice v.lo.num.a v.lo.num.n v.lo.num.c, .bool v.lo.den.g, .slice v.lo.den.a v.lo.den.n v.lo.den.c, .bool v.hi.num.g, .slice v.hi.num.a v.hi.num.n v.hi.num.c, .bool v.hi.den.g, .slice v.hi.den.a v.hi.den.n v.hi.den.c], .agg #[.bool q.num.g, .slice q.num.a q.num.n q.num.c, .bool q.den.g, .slice q.den.a q.den.n q.den.c]] w fun e' w' => e' = .returned (.bool (inQ d e)) ∧ Below w.heap.size w w' := by
  have J1 := hide j1
  have J2 := hide j2
  clear j1 j2
  by_cases c1 : nQ d.lo * dQ e ≤ nQ e * dQ d.lo
  · by_cases c2 : nQ e * dQ d.hi ≤ nQ d.hi * dQ e
    · have t1 : decide (cmpZ (nQ d.lo * dQ e) (nQ e * dQ d.lo) ≤ 0) = true := (cmpZ_le _ _).trans (decide_eq_true c1)
      have t2 : decide (cmpZ (nQ e * dQ d.hi) (nQ d.hi * dQ e) ≤ 0) = true := (cmpZ_le _ _).trans (decide_eq_true c2)
      rw [show inQ d e = true from by unfold inQ; rw [decide_eq_true c1, decide_eq_true c2]; rfl]
      clear c1 c2
      have B0 := hide (show Below w.heap.size w ((w.alloc (.cells #[.bool v.lo.num.g, .slice v.lo.num.a v.lo.num.n v.lo.num.c, .bool v.lo.den.g, .slice v.lo.den.a v.lo.den.n v.lo.den.c, .bool v.hi.num.g, .slice v.hi.num.a v.hi.num.n v.hi.num.c, .bool v.hi.den.g, .slice v.hi.den.a v.hi.den.n v.hi.den.c] 41)).alloc (.cells #[.bool q.num.g, .slice q.num.a q.num.n q.num.c, .bool q.den.g, .slice q.den.a q.den.n q.den.c] 30)) from (((Below.refl _ _).alloc (by simp) _).alloc (by simp) _))
      go_enter Try.func106, Try.ntmps106
      go_wp2_with fail
      refine (cmpQS v.lo q _ _ _ _ _ ((unhide J1).lo.is.later (unhide B0)) ((unhide J2).is.later (unhide B0)) ((unhide J1).lo.kn.mono (by omega)) ((unhide J1).lo.kd.mono (by omega)) ((unhide J2).kn.mono (by omega)) ((unhide J2).kd.mono (by omega))).mono ?_
      rintro e wc1 ⟨rfl, hb⟩
      have k0_4 : wc1.cell? ⟨w.heap.size, 4, none⟩ = some (.bool v.hi.num.g) := cell_later hb (by simp [go_sem])
      have k0_5 : wc1.cell? ⟨w.heap.size, 5, none⟩ = some (.slice v.hi.num.a v.hi.num.n v.hi.num.c) := cell_later hb (by simp [go_sem])
      have k0_6 : wc1.cell? ⟨w.heap.size, 6, none⟩ = some (.bool v.hi.den.g) := cell_later hb (by simp [go_sem])
      have k0_7 : wc1.cell? ⟨w.heap.size, 7, none⟩ = some (.slice v.hi.den.a v.hi.den.n v.hi.den.c) := cell_later hb (by simp [go_sem])
      have k1_0 : wc1.cell? ⟨w.heap.size + 1, 0, none⟩ = some (.bool q.num.g) := cell_later hb (by simp [go_sem])
      have k1_1 : wc1.cell? ⟨w.heap.size + 1, 1, none⟩ = some (.slice q.num.a q.num.n q.num.c) := cell_later hb (by simp [go_sem])
      have k1_2 : wc1.cell? ⟨w.heap.size + 1, 2, none⟩ = some (.bool q.den.g) := cell_later hb (by simp [go_sem])
      have k1_3 : wc1.cell? ⟨w.heap.size + 1, 3, none⟩ = some (.slice q.den.a q.den.n q.den.c) := cell_later hb (by simp [go_sem])
      have HB := hide (below_on (unhide B0) hb)
      clear hb
      go_wp2_with fail
      refine (cmpQS q v.hi _ _ _ _ _ ((unhide J2).is.later (unhide HB)) ((unhide J1).hi.is.later (unhide HB)) ((unhide J2).kn.mono (by omega)) ((unhide J2).kd.mono (by omega)) ((unhide J1).hi.kn.mono (by omega)) ((unhide J1).hi.kd.mono (by omega))).mono ?_
      rintro e wc2 ⟨rfl, hb⟩
      clear k0_4 k0_5 k0_6 k0_7 k1_0 k1_1 k1_2 k1_3
      replace HB := hide (below_on (unhide HB) hb)
      clear hb
      go_wp2
      go_ret
      exact ⟨rfl, unhide HB⟩
    · have t1 : decide (cmpZ (nQ d.lo * dQ e) (nQ e * dQ d.lo) ≤ 0) = true := (cmpZ_le _ _).trans (decide_eq_true c1)
      have t2 : decide (cmpZ (nQ e * dQ d.hi) (nQ d.hi * dQ e) ≤ 0) = false := (cmpZ_le _ _).trans (decide_eq_false c2)
      rw [show inQ d e = false from by unfold inQ; rw [decide_eq_true c1, decide_eq_false c2]; rfl]
      clear c1 c2
      have B0 := hide (show Below w.heap.size w ((w.alloc (.cells #[.bool v.lo.num.g, .slice v.lo.num.a v.lo.num.n v.lo.num.c, .bool v.lo.den.g, .slice v.lo.den.a v.lo.den.n v.lo.den.c, .bool v.hi.num.g, .slice v.hi.num.a v.hi.num.n v.hi.num.c, .bool v.hi.den.g, .slice v.hi.den.a v.hi.den.n v.hi.den.c] 41)).alloc (.cells #[.bool q.num.g, .slice q.num.a q.num.n q.num.c, .bool q.den.g, .slice q.den.a q.den.n q.den.c] 30)) from (((Below.refl _ _).alloc (by simp) _).alloc (by simp) _))
      go_enter Try.func106, Try.ntmps106
      go_wp2_with fail
      refine (cmpQS v.lo q _ _ _ _ _ ((unhide J1).lo.is.later (unhide B0)) ((unhide J2).is.later (unhide B0)) ((unhide J1).lo.kn.mono (by omega)) ((unhide J1).lo.kd.mono (by omega)) ((unhide J2).kn.mono (by omega)) ((unhide J2).kd.mono (by omega))).mono ?_
      rintro e wc1 ⟨rfl, hb⟩
      have k0_4 : wc1.cell? ⟨w.heap.size, 4, none⟩ = some (.bool v.hi.num.g) := cell_later hb (by simp [go_sem])
      have k0_5 : wc1.cell? ⟨w.heap.size, 5, none⟩ = some (.slice v.hi.num.a v.hi.num.n v.hi.num.c) := cell_later hb (by simp [go_sem])
      have k0_6 : wc1.cell? ⟨w.heap.size, 6, none⟩ = some (.bool v.hi.den.g) := cell_later hb (by simp [go_sem])
      have k0_7 : wc1.cell? ⟨w.heap.size, 7, none⟩ = some (.slice v.hi.den.a v.hi.den.n v.hi.den.c) := cell_later hb (by simp [go_sem])
      have k1_0 : wc1.cell? ⟨w.heap.size + 1, 0, none⟩ = some (.bool q.num.g) := cell_later hb (by simp [go_sem])
      have k1_1 : wc1.cell? ⟨w.heap.size + 1, 1, none⟩ = some (.slice q.num.a q.num.n q.num.c) := cell_later hb (by simp [go_sem])
      have k1_2 : wc1.cell? ⟨w.heap.size + 1, 2, none⟩ = some (.bool q.den.g) := cell_later hb (by simp [go_sem])
      have k1_3 : wc1.cell? ⟨w.heap.size + 1, 3, none⟩ = some (.slice q.den.a q.den.n q.den.c) := cell_later hb (by simp [go_sem])
      have HB := hide (below_on (unhide B0) hb)
      clear hb
      go_wp2_with fail
      refine (cmpQS q v.hi _ _ _ _ _ ((unhide J2).is.later (unhide HB)) ((unhide J1).hi.is.later (unhide HB)) ((unhide J2).kn.mono (by omega)) ((unhide J2).kd.mono (by omega)) ((unhide J1).hi.kn.mono (by omega)) ((unhide J1).hi.kd.mono (by omega))).mono ?_
      rintro e wc2 ⟨rfl, hb⟩
      clear k0_4 k0_5 k0_6 k0_7 k1_0 k1_1 k1_2 k1_3
      replace HB := hide (below_on (unhide HB) hb)
      clear hb
      go_wp2
      go_ret
      exact ⟨rfl, unhide HB⟩
  · have t1 : decide (cmpZ (nQ d.lo * dQ e) (nQ e * dQ d.lo) ≤ 0) = false := (cmpZ_le _ _).trans (decide_eq_false c1)
    rw [show inQ d e = false from by unfold inQ; rw [decide_eq_false c1]; rfl]
    clear c1
    have B0 := hide (show Below w.heap.size w ((w.alloc (.cells #[.bool v.lo.num.g, .slice v.lo.num.a v.lo.num.n v.lo.num.c, .bool v.lo.den.g, .slice v.lo.den.a v.lo.den.n v.lo.den.c, .bool v.hi.num.g, .slice v.hi.num.a v.hi.num.n v.hi.num.c, .bool v.hi.den.g, .slice v.hi.den.a v.hi.den.n v.hi.den.c] 41)).alloc (.cells #[.bool q.num.g, .slice q.num.a q.num.n q.num.c, .bool q.den.g, .slice q.den.a q.den.n q.den.c] 30)) from (((Below.refl _ _).alloc (by simp) _).alloc (by simp) _))
    go_enter Try.func106, Try.ntmps106
    go_wp2_with fail
    refine (cmpQS v.lo q _ _ _ _ _ ((unhide J1).lo.is.later (unhide B0)) ((unhide J2).is.later (unhide B0)) ((unhide J1).lo.kn.mono (by omega)) ((unhide J1).lo.kd.mono (by omega)) ((unhide J2).kn.mono (by omega)) ((unhide J2).kd.mono (by omega))).mono ?_
    rintro e wc1 ⟨rfl, hb⟩
    have HB := hide (below_on (unhide B0) hb)
    clear hb
    go_wp2
    go_ret
    exact ⟨rfl, unhide HB⟩

end Go.Proofs.Ytlmeokeanihhoaa
namespace Go.Proofs.Ytlmeokeanihhoaa
open Go.RowKit
set_option linter.unusedVariables false
set_option maxRecDepth 100000
set_option linter.unusedSimpArgs false

/-- A fraction's value and what it reads as. -/
structure RQ where
  q : QV
  N : Int
  D : Int
structure RQ.Is (w : World) (x : RQ) : Prop where
  is : IsQ w x.q x.N x.D
  kn : Bd x.N 200000
  kd : Bd x.D 200000
theorem cmpZ_lt1 {A B : Int} (h : A < B) : decide (cmpZ A B < 0) = true := by unfold cmpZ; rw [if_pos h]; rfl
theorem cmpZ_lt0 {A B : Int} (h : ¬ A < B) : decide (cmpZ A B < 0) = false := by unfold cmpZ; rw [if_neg h]; split <;> rfl
theorem cmpZ_gt1 {A B : Int} (h : B < A) : decide (0 < cmpZ A B) = true := by unfold cmpZ; rw [if_neg (by omega), if_pos h]; rfl
theorem cmpZ_gt0 {A B : Int} (h : ¬ B < A) : decide (0 < cmpZ A B) = false := by unfold cmpZ; rw [if_neg h]; split <;> rfl
def stLo (s a : RQ) : RQ := if a.N * s.D < s.N * a.D then a else s
def stHi (s a : RQ) : RQ := if s.N * a.D < a.N * s.D then a else s
/-- A slice of fractions. -/
structure Rats (w : World) (b off : Nat) (l : List RQ) : Prop where
  at_ : ∀ i (h : i < l.length), w.cell? ⟨b, off + i * 4 + 0, none⟩ = some (.bool l[i].q.num.g) ∧ w.cell? ⟨b, off + i * 4 + 1, none⟩ = some (.slice l[i].q.num.a l[i].q.num.n l[i].q.num.c) ∧ w.cell? ⟨b, off + i * 4 + 2, none⟩ = some (.bool l[i].q.den.g) ∧ w.cell? ⟨b, off + i * 4 + 3, none⟩ = some (.slice l[i].q.den.a l[i].q.den.n l[i].q.den.c)
  is : ∀ i (h : i < l.length), RQ.Is w l[i]
  lt : b < w.heap.size
/-- The boxes of the least and the greatest so far. -/
structure Lst (w wr : World) (G1 G2 : Nat) (q1 q2 : QV) : Prop where
  a0 : wr.cell? ⟨G1, 0, none⟩ = some (.bool q1.num.g)
  a1 : wr.cell? ⟨G1, 1, none⟩ = some (.slice q1.num.a q1.num.n q1.num.c)
  a2 : wr.cell? ⟨G1, 2, none⟩ = some (.bool q1.den.g)
  a3 : wr.cell? ⟨G1, 3, none⟩ = some (.slice q1.den.a q1.den.n q1.den.c)
  b0 : wr.cell? ⟨G2, 0, none⟩ = some (.bool q2.num.g)
  b1 : wr.cell? ⟨G2, 1, none⟩ = some (.slice q2.num.a q2.num.n q2.num.c)
  b2 : wr.cell? ⟨G2, 2, none⟩ = some (.bool q2.den.g)
  b3 : wr.cell? ⟨G2, 3, none⟩ = some (.slice q2.den.a q2.den.n q2.den.c)
  f1 : ∀ o, wr.frozen? ⟨G1, o, none⟩ = false
  f2 : ∀ o, wr.frozen? ⟨G2, o, none⟩ = false
  r0 : wr.cell? ⟨w.heap.size + 1, 0, none⟩ = some (.bool false)
  r1 : wr.cell? ⟨w.heap.size + 1, 1, none⟩ = some (.slice none 0 0)
  r2 : wr.cell? ⟨w.heap.size + 1, 2, none⟩ = some (.bool false)
  r3 : wr.cell? ⟨w.heap.size + 1, 3, none⟩ = some (.slice none 0 0)
  r4 : wr.cell? ⟨w.heap.size + 1, 4, none⟩ = some (.bool false)
  r5 : wr.cell? ⟨w.heap.size + 1, 5, none⟩ = some (.slice none 0 0)
  r6 : wr.cell? ⟨w.heap.size + 1, 6, none⟩ = some (.bool false)
  r7 : wr.cell? ⟨w.heap.size + 1, 7, none⟩ = some (.slice none 0 0)
  fr : ∀ o, wr.frozen? ⟨w.heap.size + 1, o, none⟩ = false
  bel : Below w.heap.size w wr
theorem Lst.later {w wr wy : World} {G1 G2 : Nat} {q1 q2 : QV} (h : Lst w wr G1 G2 q1 q2) (hb : Below wr.heap.size wr wy) : Lst w wy G1 G2 q1 q2 :=
  ⟨cell_later hb h.a0, cell_later hb h.a1, cell_later hb h.a2, cell_later hb h.a3, cell_later hb h.b0, cell_later hb h.b1, cell_later hb h.b2, cell_later hb h.b3, fun o => frozen_later hb (World.block_lt_of_cell? _ _ h.a0) (h.f1 o), fun o => frozen_later hb (World.block_lt_of_cell? _ _ h.b0) (h.f2 o), cell_later hb h.r0, cell_later hb h.r1, cell_later hb h.r2, cell_later hb h.r3, cell_later hb h.r4, cell_later hb h.r5, cell_later hb h.r6, cell_later hb h.r7, fun o => frozen_later hb (World.block_lt_of_cell? _ _ h.r0) (h.fr o), below_on h.bel hb⟩
theorem Lst.set1 {w wr : World} {G1 G2 : Nat} {q1 q2 q : QV} (h : Lst w wr G1 G2 q1 q2) (hne : G1 ≠ G2) (g1 : w.heap.size + 1 < G1) (g2 : w.heap.size + 1 < G2) : Lst w ((((wr.setCell ⟨G1, 0, none⟩ (.bool q.num.g)).setCell ⟨G1, 1, none⟩ (.slice q.num.a q.num.n q.num.c)).setCell ⟨G1, 2, none⟩ (.bool q.den.g)).setCell ⟨G1, 3, none⟩ (.slice q.den.a q.den.n q.den.c)) G1 G2 q q2 :=
  ⟨by simp [go_sem, h.a0, h.a1, h.a2, h.a3], by simp [go_sem, h.a0, h.a1, h.a2, h.a3], by simp [go_sem, h.a0, h.a1, h.a2, h.a3], by simp [go_sem, h.a0, h.a1, h.a2, h.a3], cs_other (cs_other (cs_other (cs_other h.b0 (fun e => hne e.symm)) (fun e => hne e.symm)) (fun e => hne e.symm)) (fun e => hne e.symm), cs_other (cs_other (cs_other (cs_other h.b1 (fun e => hne e.symm)) (fun e => hne e.symm)) (fun e => hne e.symm)) (fun e => hne e.symm), cs_other (cs_other (cs_other (cs_other h.b2 (fun e => hne e.symm)) (fun e => hne e.symm)) (fun e => hne e.symm)) (fun e => hne e.symm), cs_other (cs_other (cs_other (cs_other h.b3 (fun e => hne e.symm)) (fun e => hne e.symm)) (fun e => hne e.symm)) (fun e => hne e.symm), fun o => by simp [go_sem, h.f1 o], fun o => by simp [go_sem, h.f2 o], cs_other (cs_other (cs_other (cs_other h.r0 (by omega)) (by omega)) (by omega)) (by omega), cs_other (cs_other (cs_other (cs_other h.r1 (by omega)) (by omega)) (by omega)) (by omega), cs_other (cs_other (cs_other (cs_other h.r2 (by omega)) (by omega)) (by omega)) (by omega), cs_other (cs_other (cs_other (cs_other h.r3 (by omega)) (by omega)) (by omega)) (by omega), cs_other (cs_other (cs_other (cs_other h.r4 (by omega)) (by omega)) (by omega)) (by omega), cs_other (cs_other (cs_other (cs_other h.r5 (by omega)) (by omega)) (by omega)) (by omega), cs_other (cs_other (cs_other (cs_other h.r6 (by omega)) (by omega)) (by omega)) (by omega), cs_other (cs_other (cs_other (cs_other h.r7 (by omega)) (by omega)) (by omega)) (by omega), fun o => by simp [go_sem, h.fr o], ((((h.bel.setCell (by show w.heap.size ≤ G1; omega) _).setCell (by show w.heap.size ≤ G1; omega) _).setCell (by show w.heap.size ≤ G1; omega) _).setCell (by show w.heap.size ≤ G1; omega) _)⟩
theorem Lst.set2 {w wr : World} {G1 G2 : Nat} {q1 q2 q : QV} (h : Lst w wr G1 G2 q1 q2) (hne : G1 ≠ G2) (g1 : w.heap.size + 1 < G1) (g2 : w.heap.size + 1 < G2) : Lst w ((((wr.setCell ⟨G2, 0, none⟩ (.bool q.num.g)).setCell ⟨G2, 1, none⟩ (.slice q.num.a q.num.n q.num.c)).setCell ⟨G2, 2, none⟩ (.bool q.den.g)).setCell ⟨G2, 3, none⟩ (.slice q.den.a q.den.n q.den.c)) G1 G2 q1 q :=
  ⟨cs_other (cs_other (cs_other (cs_other h.a0 (fun e => hne e)) (fun e => hne e)) (fun e => hne e)) (fun e => hne e), cs_other (cs_other (cs_other (cs_other h.a1 (fun e => hne e)) (fun e => hne e)) (fun e => hne e)) (fun e => hne e), cs_other (cs_other (cs_other (cs_other h.a2 (fun e => hne e)) (fun e => hne e)) (fun e => hne e)) (fun e => hne e), cs_other (cs_other (cs_other (cs_other h.a3 (fun e => hne e)) (fun e => hne e)) (fun e => hne e)) (fun e => hne e), by simp [go_sem, h.b0, h.b1, h.b2, h.b3], by simp [go_sem, h.b0, h.b1, h.b2, h.b3], by simp [go_sem, h.b0, h.b1, h.b2, h.b3], by simp [go_sem, h.b0, h.b1, h.b2, h.b3], fun o => by simp [go_sem, h.f1 o], fun o => by simp [go_sem, h.f2 o], cs_other (cs_other (cs_other (cs_other h.r0 (by omega)) (by omega)) (by omega)) (by omega), cs_other (cs_other (cs_other (cs_other h.r1 (by omega)) (by omega)) (by omega)) (by omega), cs_other (cs_other (cs_other (cs_other h.r2 (by omega)) (by omega)) (by omega)) (by omega), cs_other (cs_other (cs_other (cs_other h.r3 (by omega)) (by omega)) (by omega)) (by omega), cs_other (cs_other (cs_other (cs_other h.r4 (by omega)) (by omega)) (by omega)) (by omega), cs_other (cs_other (cs_other (cs_other h.r5 (by omega)) (by omega)) (by omega)) (by omega), cs_other (cs_other (cs_other (cs_other h.r6 (by omega)) (by omega)) (by omega)) (by omega), cs_other (cs_other (cs_other (cs_other h.r7 (by omega)) (by omega)) (by omega)) (by omega), fun o => by simp [go_sem, h.fr o], ((((h.bel.setCell (by show w.heap.size ≤ G2; omega) _).setCell (by show w.heap.size ≤ G2; omega) _).setCell (by show w.heap.size ≤ G2; omega) _).setCell (by show w.heap.size ≤ G2; omega) _)⟩

set_option maxHeartbeats 8000000 in
theorem leastI (x : RQ) (b off n c : Nat) (l : List RQ) (w : World) (h : RQ.Is w x) (hl : Rats w b off l) (hn : l.length = n) (h1 : n ≤ 1000) :
    Calls Try.prog 164 #[.agg #[.bool x.q.num.g, .slice x.q.num.a x.q.num.n x.q.num.c, .bool x.q.den.g, .slice x.q.den.a x.q.den.n x.q.den.c], .slice (some ⟨b, off, none⟩) n c] w (OutS w (l.foldl stLo x).N (l.foldl stLo x).D (l.foldl stHi x).N (l.foldl stHi x).D) := by
  have H1 := hide h
  have HL := hide hl
  have HN := hide hn
  clear h hl hn
  go_enter Try.func164, Try.ntmps164
  go_upto_region 1 with fail
  have hb : Below w.heap.size w ((w.alloc (.cells #[.bool x.q.num.g, .slice x.q.num.a x.q.num.n x.q.num.c, .bool x.q.den.g, .slice x.q.den.a x.q.den.n x.q.den.c] 30)).alloc (.cells #[.bool false, .slice none 0 0, .bool false, .slice none 0 0, .bool false, .slice none 0 0, .bool false, .slice none 0 0] 41)) := (((Below.refl _ _).alloc (by simp) _).alloc (by simp) _)
  have k0_0 : ((w.alloc (.cells #[.bool x.q.num.g, .slice x.q.num.a x.q.num.n x.q.num.c, .bool x.q.den.g, .slice x.q.den.a x.q.den.n x.q.den.c] 30)).alloc (.cells #[.bool false, .slice none 0 0, .bool false, .slice none 0 0, .bool false, .slice none 0 0, .bool false, .slice none 0 0] 41)).cell? ⟨w.heap.size, 0, none⟩ = some (.bool x.q.num.g) := by simp [go_sem]
  have k0_1 : ((w.alloc (.cells #[.bool x.q.num.g, .slice x.q.num.a x.q.num.n x.q.num.c, .bool x.q.den.g, .slice x.q.den.a x.q.den.n x.q.den.c] 30)).alloc (.cells #[.bool false, .slice none 0 0, .bool false, .slice none 0 0, .bool false, .slice none 0 0, .bool false, .slice none 0 0] 41)).cell? ⟨w.heap.size, 1, none⟩ = some (.slice x.q.num.a x.q.num.n x.q.num.c) := by simp [go_sem]
  have k0_2 : ((w.alloc (.cells #[.bool x.q.num.g, .slice x.q.num.a x.q.num.n x.q.num.c, .bool x.q.den.g, .slice x.q.den.a x.q.den.n x.q.den.c] 30)).alloc (.cells #[.bool false, .slice none 0 0, .bool false, .slice none 0 0, .bool false, .slice none 0 0, .bool false, .slice none 0 0] 41)).cell? ⟨w.heap.size, 2, none⟩ = some (.bool x.q.den.g) := by simp [go_sem]
  have k0_3 : ((w.alloc (.cells #[.bool x.q.num.g, .slice x.q.num.a x.q.num.n x.q.num.c, .bool x.q.den.g, .slice x.q.den.a x.q.den.n x.q.den.c] 30)).alloc (.cells #[.bool false, .slice none 0 0, .bool false, .slice none 0 0, .bool false, .slice none 0 0, .bool false, .slice none 0 0] 41)).cell? ⟨w.heap.size, 3, none⟩ = some (.slice x.q.den.a x.q.den.n x.q.den.c) := by simp [go_sem]
  have k1_0 : ((w.alloc (.cells #[.bool x.q.num.g, .slice x.q.num.a x.q.num.n x.q.num.c, .bool x.q.den.g, .slice x.q.den.a x.q.den.n x.q.den.c] 30)).alloc (.cells #[.bool false, .slice none 0 0, .bool false, .slice none 0 0, .bool false, .slice none 0 0, .bool false, .slice none 0 0] 41)).cell? ⟨w.heap.size + 1, 0, none⟩ = some (.bool false) := by simp [go_sem]
  have k1_1 : ((w.alloc (.cells #[.bool x.q.num.g, .slice x.q.num.a x.q.num.n x.q.num.c, .bool x.q.den.g, .slice x.q.den.a x.q.den.n x.q.den.c] 30)).alloc (.cells #[.bool false, .slice none 0 0, .bool false, .slice none 0 0, .bool false, .slice none 0 0, .bool false, .slice none 0 0] 41)).cell? ⟨w.heap.size + 1, 1, none⟩ = some (.slice none 0 0) := by simp [go_sem]
  have k1_2 : ((w.alloc (.cells #[.bool x.q.num.g, .slice x.q.num.a x.q.num.n x.q.num.c, .bool x.q.den.g, .slice x.q.den.a x.q.den.n x.q.den.c] 30)).alloc (.cells #[.bool false, .slice none 0 0, .bool false, .slice none 0 0, .bool false, .slice none 0 0, .bool false, .slice none 0 0] 41)).cell? ⟨w.heap.size + 1, 2, none⟩ = some (.bool false) := by simp [go_sem]
  have k1_3 : ((w.alloc (.cells #[.bool x.q.num.g, .slice x.q.num.a x.q.num.n x.q.num.c, .bool x.q.den.g, .slice x.q.den.a x.q.den.n x.q.den.c] 30)).alloc (.cells #[.bool false, .slice none 0 0, .bool false, .slice none 0 0, .bool false, .slice none 0 0, .bool false, .slice none 0 0] 41)).cell? ⟨w.heap.size + 1, 3, none⟩ = some (.slice none 0 0) := by simp [go_sem]
  have k1_4 : ((w.alloc (.cells #[.bool x.q.num.g, .slice x.q.num.a x.q.num.n x.q.num.c, .bool x.q.den.g, .slice x.q.den.a x.q.den.n x.q.den.c] 30)).alloc (.cells #[.bool false, .slice none 0 0, .bool false, .slice none 0 0, .bool false, .slice none 0 0, .bool false, .slice none 0 0] 41)).cell? ⟨w.heap.size + 1, 4, none⟩ = some (.bool false) := by simp [go_sem]
  have k1_5 : ((w.alloc (.cells #[.bool x.q.num.g, .slice x.q.num.a x.q.num.n x.q.num.c, .bool x.q.den.g, .slice x.q.den.a x.q.den.n x.q.den.c] 30)).alloc (.cells #[.bool false, .slice none 0 0, .bool false, .slice none 0 0, .bool false, .slice none 0 0, .bool false, .slice none 0 0] 41)).cell? ⟨w.heap.size + 1, 5, none⟩ = some (.slice none 0 0) := by simp [go_sem]
  have k1_6 : ((w.alloc (.cells #[.bool x.q.num.g, .slice x.q.num.a x.q.num.n x.q.num.c, .bool x.q.den.g, .slice x.q.den.a x.q.den.n x.q.den.c] 30)).alloc (.cells #[.bool false, .slice none 0 0, .bool false, .slice none 0 0, .bool false, .slice none 0 0, .bool false, .slice none 0 0] 41)).cell? ⟨w.heap.size + 1, 6, none⟩ = some (.bool false) := by simp [go_sem]
  have k1_7 : ((w.alloc (.cells #[.bool x.q.num.g, .slice x.q.num.a x.q.num.n x.q.num.c, .bool x.q.den.g, .slice x.q.den.a x.q.den.n x.q.den.c] 30)).alloc (.cells #[.bool false, .slice none 0 0, .bool false, .slice none 0 0, .bool false, .slice none 0 0, .bool false, .slice none 0 0] 41)).cell? ⟨w.heap.size + 1, 7, none⟩ = some (.slice none 0 0) := by simp [go_sem]
  have z1 : ∀ o, ((w.alloc (.cells #[.bool x.q.num.g, .slice x.q.num.a x.q.num.n x.q.num.c, .bool x.q.den.g, .slice x.q.den.a x.q.den.n x.q.den.c] 30)).alloc (.cells #[.bool false, .slice none 0 0, .bool false, .slice none 0 0, .bool false, .slice none 0 0, .bool false, .slice none 0 0] 41)).frozen? ⟨w.heap.size + 1, o, none⟩ = false := fun o => by simp [go_sem]
  have szw0 : w.heap.size + 2 ≤ ((w.alloc (.cells #[.bool x.q.num.g, .slice x.q.num.a x.q.num.n x.q.num.c, .bool x.q.den.g, .slice x.q.den.a x.q.den.n x.q.den.c] 30)).alloc (.cells #[.bool false, .slice none 0 0, .bool false, .slice none 0 0, .bool false, .slice none 0 0, .bool false, .slice none 0 0] 41)).heap.size := by simp
  have HB := hide hb
  clear hb
  generalize ((w.alloc (.cells #[.bool x.q.num.g, .slice x.q.num.a x.q.num.n x.q.num.c, .bool x.q.den.g, .slice x.q.den.a x.q.den.n x.q.den.c] 30)).alloc (.cells #[.bool false, .slice none 0 0, .bool false, .slice none 0 0, .bool false, .slice none 0 0, .bool false, .slice none 0 0] 41)) = w0 at *
  go_cut [5, 6] (fun p q' wx => ∃ (G1 G2 : Nat), p = .pointer (some ⟨G1, 0, none⟩) ∧ q' = .pointer (some ⟨G2, 0, none⟩) ∧ Hid (Two4 w0 wx G1 G2 x.q x.q))
  case first =>
    go_region_held3 (fun w' => w'.cell? ⟨w.heap.size, 0, none⟩ = some (.bool x.q.num.g) ∧ w'.cell? ⟨w.heap.size, 1, none⟩ = some (.slice x.q.num.a x.q.num.n x.q.num.c) ∧ w'.cell? ⟨w.heap.size, 2, none⟩ = some (.bool x.q.den.g) ∧ w'.cell? ⟨w.heap.size, 3, none⟩ = some (.slice x.q.den.a x.q.den.n x.q.den.c)) (first | (with_reducible exact ⟨k0_0, k0_1, k0_2, k0_3⟩) | (with_reducible exact ⟨cd_other (k0_0), cd_other (k0_1), cd_other (k0_2), cd_other (k0_3)⟩) | (with_reducible exact ⟨ca_other (k0_0), ca_other (k0_1), ca_other (k0_2), ca_other (k0_3)⟩) | (with_reducible exact ⟨cd_other (ca_other (k0_0)), cd_other (ca_other (k0_1)), cd_other (ca_other (k0_2)), cd_other (ca_other (k0_3))⟩) | (with_reducible exact ⟨ca_other (cd_other (k0_0)), ca_other (cd_other (k0_1)), ca_other (cd_other (k0_2)), ca_other (cd_other (k0_3))⟩) | (with_reducible exact ⟨ca_other (ca_other (k0_0)), ca_other (ca_other (k0_1)), ca_other (ca_other (k0_2)), ca_other (ca_other (k0_3))⟩) | (with_reducible exact ⟨cd_other (ca_other (ca_other (k0_0))), cd_other (ca_other (ca_other (k0_1))), cd_other (ca_other (ca_other (k0_2))), cd_other (ca_other (ca_other (k0_3)))⟩) | (with_reducible exact ⟨ca_other (cd_other (ca_other (k0_0))), ca_other (cd_other (ca_other (k0_1))), ca_other (cd_other (ca_other (k0_2))), ca_other (cd_other (ca_other (k0_3)))⟩) | (with_reducible exact ⟨ca_other (ca_other (cd_other (k0_0))), ca_other (ca_other (cd_other (k0_1))), ca_other (ca_other (cd_other (k0_2))), ca_other (ca_other (cd_other (k0_3)))⟩) | (refine ⟨?_, ?_, ?_, ?_⟩ <;> (simp [go_sem, k0_0, k0_1, k0_2, k0_3]; done)) | fail) (fail)
    all_goals go_wp2_with fail
    all_goals go_meet
    all_goals refine ⟨_, _, rfl, rfl, hide ⟨?_, ?_, ?_, ?_, ?_, ?_, ?_, ?_, ?_, ?_, ?_, ?_, ?_, ?_, ?_, ?_⟩⟩
    all_goals first | (simp [go_sem]; done) | (intro o; simp [go_sem]; done) | exact ((Below.refl _ _).alloc (Nat.le_refl _) _).alloc (by simp) _ | exact (((Below.refl _ _).alloc (Nat.le_refl _) _).alloc (by simp) _).drew
  case rest =>
    obtain ⟨G1, G2, rfl, rfl, HT⟩ := hcut
    have hb := (unhide HT).bel
    have g1 : w.heap.size + 1 < G1 := by have := (unhide HT).lo1; omega
    have g2 : w.heap.size + 1 < G2 := by have := (unhide HT).lo2; omega
    have HNE := hide (unhide HT).ne
    have L0 : Hid (Lst w wc G1 G2 x.q x.q) := hide ⟨(unhide HT).a0, (unhide HT).a1, (unhide HT).a2, (unhide HT).a3, (unhide HT).b0, (unhide HT).b1, (unhide HT).b2, (unhide HT).b3, (unhide HT).f1, (unhide HT).f2, cell_later hb k1_0, cell_later hb k1_1, cell_later hb k1_2, cell_later hb k1_3, cell_later hb k1_4, cell_later hb k1_5, cell_later hb k1_6, cell_later hb k1_7, fun o => frozen_later hb (World.block_lt_of_cell? _ _ k1_0) (z1 o), below_on (unhide HB) hb⟩
    clear hb HT k0_0 k0_1 k0_2 k0_3 k1_0 k1_1 k1_2 k1_3 k1_4 k1_5 k1_6 k1_7 z1 HB
    go_wp2
    go_loopw [13] (fun iv wr => ∃ (i : Nat) (lo hi : RQ), i ≤ n ∧ iv = .int .i64 i ∧ Hid (lo = (l.take i).foldl stLo x) ∧ Hid (hi = (l.take i).foldl stHi x) ∧ Hid (RQ.Is w lo) ∧ Hid (RQ.Is w hi) ∧ Hid (Lst w wr G1 G2 lo.q hi.q)) (fun iv _ => n - (intOf iv).toNat)
    case atStart => exact ⟨0, x, x, Nat.zero_le _, rfl, hide rfl, hide rfl, H1, H1, L0⟩
    case round =>
      obtain ⟨i, lo, hi, hi0, rfl, EL, EH, JL, JH, LL⟩ := hrel
      clear L0
      by_cases hlt : i < n
      · have hlt' : (i : Int) < (n : Int) := by omega
        have e0 := (unhide HL).at_ i (by rw [unhide HN]; exact hlt)
        have j0 := (unhide HL).is i (by rw [unhide HN]; exact hlt)
        obtain ⟨y, hy⟩ : ∃ y, y = l[i]'(by rw [unhide HN]; exact hlt) := ⟨_, rfl⟩
        rw [← hy] at e0 j0
        have EY := hide hy
        have JY := hide j0
        obtain ⟨e00, e01, e02, e03⟩ := e0
        have E0 : wr.cell? ⟨b, off + i * 4, none⟩ = some (.bool y.q.num.g) := ((unhide LL).bel.cell (p := ⟨b, off + i * 4, none⟩) (unhide HL).lt).trans e00
        have E1 : wr.cell? ⟨b, off + i * 4 + 1, none⟩ = some (.slice y.q.num.a y.q.num.n y.q.num.c) := ((unhide LL).bel.cell (p := ⟨b, off + i * 4 + 1, none⟩) (unhide HL).lt).trans e01
        have E2 : wr.cell? ⟨b, off + i * 4 + 2, none⟩ = some (.bool y.q.den.g) := ((unhide LL).bel.cell (p := ⟨b, off + i * 4 + 2, none⟩) (unhide HL).lt).trans e02
        have E3 : wr.cell? ⟨b, off + i * 4 + 3, none⟩ = some (.slice y.q.den.a y.q.den.n y.q.den.c) := ((unhide LL).bel.cell (p := ⟨b, off + i * 4 + 3, none⟩) (unhide HL).lt).trans e03
        clear hy j0 e00 e01 e02 e03
        have LA := hide ((unhide LL).later ((Below.refl _ _).alloc (Nat.le_refl _) (.cells #[.bool y.q.num.g, .slice y.q.num.a y.q.num.n y.q.num.c, .bool y.q.den.g, .slice y.q.den.a y.q.den.n y.q.den.c] 30)))
        have SL : Hid ((l.take (i + 1)).foldl stLo x = stLo lo y ∧ (l.take (i + 1)).foldl stHi x = stHi hi y) := hide (by
          have ht : l.take (i + 1) = l.take i ++ [y] := by rw [unhide EY]; exact (List.take_append_getElem (by rw [unhide HN]; exact hlt)).symm
          rw [ht, List.foldl_append, List.foldl_append, ← unhide EL, ← unhide EH]
          exact ⟨rfl, rfl⟩)
        have g1r : G1 < wr.heap.size := World.block_lt_of_cell? _ _ (unhide LL).a0
        have g2r : G2 < wr.heap.size := World.block_lt_of_cell? _ _ (unhide LL).b0
        clear LL EL EH
        by_cases c1 : y.N * lo.D < lo.N * y.D
        · by_cases c2 : hi.N * y.D < y.N * hi.D
          · have t1 : decide (cmpZ (y.N * lo.D) (lo.N * y.D) < 0) = true := cmpZ_lt1 c1
            have t2 : decide (0 < cmpZ (y.N * hi.D) (hi.N * y.D)) = true := cmpZ_gt1 c2
            have NL : Hid (stLo lo y = y ∧ stHi hi y = y) := hide ⟨by unfold stLo; rw [if_pos c1], by unfold stHi; rw [if_pos c2]⟩
            clear c1 c2
            have p0 := (unhide LA).a0
            have p1 := (unhide LA).a1
            have p2 := (unhide LA).a2
            have p3 := (unhide LA).a3
            go_wp2_with fail
            refine (cmpQI y.q lo.q _ _ _ _ _ ((unhide JY).is.later (unhide LA).bel) ((unhide JL).is.later (unhide LA).bel) (unhide JY).kn (unhide JY).kd (unhide JL).kn (unhide JL).kd).mono ?_
            rintro e w1 ⟨rfl, hb⟩
            have q0 : w1.cell? ⟨wr.heap.size, 0, none⟩ = some (.bool y.q.num.g) := cell_later hb (by simp [go_sem])
            have q1 : w1.cell? ⟨wr.heap.size, 1, none⟩ = some (.slice y.q.num.a y.q.num.n y.q.num.c) := cell_later hb (by simp [go_sem])
            have q2 : w1.cell? ⟨wr.heap.size, 2, none⟩ = some (.bool y.q.den.g) := cell_later hb (by simp [go_sem])
            have q3 : w1.cell? ⟨wr.heap.size, 3, none⟩ = some (.slice y.q.den.a y.q.den.n y.q.den.c) := cell_later hb (by simp [go_sem])
            have LB := hide ((unhide LA).later hb)
            clear hb LA E0 E1 E2 E3 p0 p1 p2 p3
            have m0 := (unhide LB).a0
            have m1 := (unhide LB).a1
            have m2 := (unhide LB).a2
            have m3 := (unhide LB).a3
            have mf := (unhide LB).f1
            have LC := hide ((unhide LB).set1 (q := y.q) (unhide HNE) g1 g2)
            have qq0 : ((((w1.setCell ⟨G1, 0, none⟩ (.bool y.q.num.g)).setCell ⟨G1, 1, none⟩ (.slice y.q.num.a y.q.num.n y.q.num.c)).setCell ⟨G1, 2, none⟩ (.bool y.q.den.g)).setCell ⟨G1, 3, none⟩ (.slice y.q.den.a y.q.den.n y.q.den.c)).cell? ⟨wr.heap.size, 0, none⟩ = some (.bool y.q.num.g) := cs_other (cs_other (cs_other (cs_other q0 (by omega)) (by omega)) (by omega)) (by omega)
            have qq1 : ((((w1.setCell ⟨G1, 0, none⟩ (.bool y.q.num.g)).setCell ⟨G1, 1, none⟩ (.slice y.q.num.a y.q.num.n y.q.num.c)).setCell ⟨G1, 2, none⟩ (.bool y.q.den.g)).setCell ⟨G1, 3, none⟩ (.slice y.q.den.a y.q.den.n y.q.den.c)).cell? ⟨wr.heap.size, 1, none⟩ = some (.slice y.q.num.a y.q.num.n y.q.num.c) := cs_other (cs_other (cs_other (cs_other q1 (by omega)) (by omega)) (by omega)) (by omega)
            have qq2 : ((((w1.setCell ⟨G1, 0, none⟩ (.bool y.q.num.g)).setCell ⟨G1, 1, none⟩ (.slice y.q.num.a y.q.num.n y.q.num.c)).setCell ⟨G1, 2, none⟩ (.bool y.q.den.g)).setCell ⟨G1, 3, none⟩ (.slice y.q.den.a y.q.den.n y.q.den.c)).cell? ⟨wr.heap.size, 2, none⟩ = some (.bool y.q.den.g) := cs_other (cs_other (cs_other (cs_other q2 (by omega)) (by omega)) (by omega)) (by omega)
            have qq3 : ((((w1.setCell ⟨G1, 0, none⟩ (.bool y.q.num.g)).setCell ⟨G1, 1, none⟩ (.slice y.q.num.a y.q.num.n y.q.num.c)).setCell ⟨G1, 2, none⟩ (.bool y.q.den.g)).setCell ⟨G1, 3, none⟩ (.slice y.q.den.a y.q.den.n y.q.den.c)).cell? ⟨wr.heap.size, 3, none⟩ = some (.slice y.q.den.a y.q.den.n y.q.den.c) := cs_other (cs_other (cs_other (cs_other q3 (by omega)) (by omega)) (by omega)) (by omega)
            have pp0 := (unhide LC).b0
            have pp1 := (unhide LC).b1
            have pp2 := (unhide LC).b2
            have pp3 := (unhide LC).b3
            go_wp2_with fail
            refine (cmpQI y.q hi.q _ _ _ _ _ ((unhide JY).is.later (unhide LC).bel) ((unhide JH).is.later (unhide LC).bel) (unhide JY).kn (unhide JY).kd (unhide JH).kn (unhide JH).kd).mono ?_
            rintro e w2 ⟨rfl, hb⟩
            have s0 := cell_later hb qq0
            have s1 := cell_later hb qq1
            have s2 := cell_later hb qq2
            have s3 := cell_later hb qq3
            have LD := hide ((unhide LC).later hb)
            clear hb LB pp0 pp1 pp2 pp3 q0 q1 q2 q3 LC qq0 qq1 qq2 qq3 m0 m1 m2 m3 mf
            have m0 := (unhide LD).b0
            have m1 := (unhide LD).b1
            have m2 := (unhide LD).b2
            have m3 := (unhide LD).b3
            have mf := (unhide LD).f2
            have LE := hide ((unhide LD).set2 (q := y.q) (unhide HNE) g1 g2)
            go_wp2
            go_roundw
            case rel => exact ⟨i + 1, y, y, by omega, by go_num, hide (by rw [(unhide SL).1, (unhide NL).1]), hide (by rw [(unhide SL).2, (unhide NL).2]), JY, JY, LE⟩
            case measure => simp [intOf]; omega
          · have t1 : decide (cmpZ (y.N * lo.D) (lo.N * y.D) < 0) = true := cmpZ_lt1 c1
            have t2 : decide (0 < cmpZ (y.N * hi.D) (hi.N * y.D)) = false := cmpZ_gt0 c2
            have NL : Hid (stLo lo y = y ∧ stHi hi y = hi) := hide ⟨by unfold stLo; rw [if_pos c1], by unfold stHi; rw [if_neg c2]⟩
            clear c1 c2
            have p0 := (unhide LA).a0
            have p1 := (unhide LA).a1
            have p2 := (unhide LA).a2
            have p3 := (unhide LA).a3
            go_wp2_with fail
            refine (cmpQI y.q lo.q _ _ _ _ _ ((unhide JY).is.later (unhide LA).bel) ((unhide JL).is.later (unhide LA).bel) (unhide JY).kn (unhide JY).kd (unhide JL).kn (unhide JL).kd).mono ?_
            rintro e w1 ⟨rfl, hb⟩
            have q0 : w1.cell? ⟨wr.heap.size, 0, none⟩ = some (.bool y.q.num.g) := cell_later hb (by simp [go_sem])
            have q1 : w1.cell? ⟨wr.heap.size, 1, none⟩ = some (.slice y.q.num.a y.q.num.n y.q.num.c) := cell_later hb (by simp [go_sem])
            have q2 : w1.cell? ⟨wr.heap.size, 2, none⟩ = some (.bool y.q.den.g) := cell_later hb (by simp [go_sem])
            have q3 : w1.cell? ⟨wr.heap.size, 3, none⟩ = some (.slice y.q.den.a y.q.den.n y.q.den.c) := cell_later hb (by simp [go_sem])
            have LB := hide ((unhide LA).later hb)
            clear hb LA E0 E1 E2 E3 p0 p1 p2 p3
            have m0 := (unhide LB).a0
            have m1 := (unhide LB).a1
            have m2 := (unhide LB).a2
            have m3 := (unhide LB).a3
            have mf := (unhide LB).f1
            have LC := hide ((unhide LB).set1 (q := y.q) (unhide HNE) g1 g2)
            have qq0 : ((((w1.setCell ⟨G1, 0, none⟩ (.bool y.q.num.g)).setCell ⟨G1, 1, none⟩ (.slice y.q.num.a y.q.num.n y.q.num.c)).setCell ⟨G1, 2, none⟩ (.bool y.q.den.g)).setCell ⟨G1, 3, none⟩ (.slice y.q.den.a y.q.den.n y.q.den.c)).cell? ⟨wr.heap.size, 0, none⟩ = some (.bool y.q.num.g) := cs_other (cs_other (cs_other (cs_other q0 (by omega)) (by omega)) (by omega)) (by omega)
            have qq1 : ((((w1.setCell ⟨G1, 0, none⟩ (.bool y.q.num.g)).setCell ⟨G1, 1, none⟩ (.slice y.q.num.a y.q.num.n y.q.num.c)).setCell ⟨G1, 2, none⟩ (.bool y.q.den.g)).setCell ⟨G1, 3, none⟩ (.slice y.q.den.a y.q.den.n y.q.den.c)).cell? ⟨wr.heap.size, 1, none⟩ = some (.slice y.q.num.a y.q.num.n y.q.num.c) := cs_other (cs_other (cs_other (cs_other q1 (by omega)) (by omega)) (by omega)) (by omega)
            have qq2 : ((((w1.setCell ⟨G1, 0, none⟩ (.bool y.q.num.g)).setCell ⟨G1, 1, none⟩ (.slice y.q.num.a y.q.num.n y.q.num.c)).setCell ⟨G1, 2, none⟩ (.bool y.q.den.g)).setCell ⟨G1, 3, none⟩ (.slice y.q.den.a y.q.den.n y.q.den.c)).cell? ⟨wr.heap.size, 2, none⟩ = some (.bool y.q.den.g) := cs_other (cs_other (cs_other (cs_other q2 (by omega)) (by omega)) (by omega)) (by omega)
            have qq3 : ((((w1.setCell ⟨G1, 0, none⟩ (.bool y.q.num.g)).setCell ⟨G1, 1, none⟩ (.slice y.q.num.a y.q.num.n y.q.num.c)).setCell ⟨G1, 2, none⟩ (.bool y.q.den.g)).setCell ⟨G1, 3, none⟩ (.slice y.q.den.a y.q.den.n y.q.den.c)).cell? ⟨wr.heap.size, 3, none⟩ = some (.slice y.q.den.a y.q.den.n y.q.den.c) := cs_other (cs_other (cs_other (cs_other q3 (by omega)) (by omega)) (by omega)) (by omega)
            have pp0 := (unhide LC).b0
            have pp1 := (unhide LC).b1
            have pp2 := (unhide LC).b2
            have pp3 := (unhide LC).b3
            go_wp2_with fail
            refine (cmpQI y.q hi.q _ _ _ _ _ ((unhide JY).is.later (unhide LC).bel) ((unhide JH).is.later (unhide LC).bel) (unhide JY).kn (unhide JY).kd (unhide JH).kn (unhide JH).kd).mono ?_
            rintro e w2 ⟨rfl, hb⟩
            have s0 := cell_later hb qq0
            have s1 := cell_later hb qq1
            have s2 := cell_later hb qq2
            have s3 := cell_later hb qq3
            have LD := hide ((unhide LC).later hb)
            clear hb LB pp0 pp1 pp2 pp3 q0 q1 q2 q3 LC qq0 qq1 qq2 qq3 m0 m1 m2 m3 mf
            go_wp2
            go_roundw
            case rel => exact ⟨i + 1, y, hi, by omega, by go_num, hide (by rw [(unhide SL).1, (unhide NL).1]), hide (by rw [(unhide SL).2, (unhide NL).2]), JY, JH, LD⟩
            case measure => simp [intOf]; omega
        · by_cases c2 : hi.N * y.D < y.N * hi.D
          · have t1 : decide (cmpZ (y.N * lo.D) (lo.N * y.D) < 0) = false := cmpZ_lt0 c1
            have t2 : decide (0 < cmpZ (y.N * hi.D) (hi.N * y.D)) = true := cmpZ_gt1 c2
            have NL : Hid (stLo lo y = lo ∧ stHi hi y = y) := hide ⟨by unfold stLo; rw [if_neg c1], by unfold stHi; rw [if_pos c2]⟩
            clear c1 c2
            have p0 := (unhide LA).a0
            have p1 := (unhide LA).a1
            have p2 := (unhide LA).a2
            have p3 := (unhide LA).a3
            go_wp2_with fail
            refine (cmpQI y.q lo.q _ _ _ _ _ ((unhide JY).is.later (unhide LA).bel) ((unhide JL).is.later (unhide LA).bel) (unhide JY).kn (unhide JY).kd (unhide JL).kn (unhide JL).kd).mono ?_
            rintro e w1 ⟨rfl, hb⟩
            have q0 : w1.cell? ⟨wr.heap.size, 0, none⟩ = some (.bool y.q.num.g) := cell_later hb (by simp [go_sem])
            have q1 : w1.cell? ⟨wr.heap.size, 1, none⟩ = some (.slice y.q.num.a y.q.num.n y.q.num.c) := cell_later hb (by simp [go_sem])
            have q2 : w1.cell? ⟨wr.heap.size, 2, none⟩ = some (.bool y.q.den.g) := cell_later hb (by simp [go_sem])
            have q3 : w1.cell? ⟨wr.heap.size, 3, none⟩ = some (.slice y.q.den.a y.q.den.n y.q.den.c) := cell_later hb (by simp [go_sem])
            have LB := hide ((unhide LA).later hb)
            clear hb LA E0 E1 E2 E3 p0 p1 p2 p3
            have pp0 := (unhide LB).b0
            have pp1 := (unhide LB).b1
            have pp2 := (unhide LB).b2
            have pp3 := (unhide LB).b3
            go_wp2_with fail
            refine (cmpQI y.q hi.q _ _ _ _ _ ((unhide JY).is.later (unhide LB).bel) ((unhide JH).is.later (unhide LB).bel) (unhide JY).kn (unhide JY).kd (unhide JH).kn (unhide JH).kd).mono ?_
            rintro e w2 ⟨rfl, hb⟩
            have s0 := cell_later hb q0
            have s1 := cell_later hb q1
            have s2 := cell_later hb q2
            have s3 := cell_later hb q3
            have LD := hide ((unhide LB).later hb)
            clear hb LB pp0 pp1 pp2 pp3 q0 q1 q2 q3
            have m0 := (unhide LD).b0
            have m1 := (unhide LD).b1
            have m2 := (unhide LD).b2
            have m3 := (unhide LD).b3
            have mf := (unhide LD).f2
            have LE := hide ((unhide LD).set2 (q := y.q) (unhide HNE) g1 g2)
            go_wp2
            go_roundw
            case rel => exact ⟨i + 1, lo, y, by omega, by go_num, hide (by rw [(unhide SL).1, (unhide NL).1]), hide (by rw [(unhide SL).2, (unhide NL).2]), JL, JY, LE⟩
            case measure => simp [intOf]; omega
          · have t1 : decide (cmpZ (y.N * lo.D) (lo.N * y.D) < 0) = false := cmpZ_lt0 c1
            have t2 : decide (0 < cmpZ (y.N * hi.D) (hi.N * y.D)) = false := cmpZ_gt0 c2
            have NL : Hid (stLo lo y = lo ∧ stHi hi y = hi) := hide ⟨by unfold stLo; rw [if_neg c1], by unfold stHi; rw [if_neg c2]⟩
            clear c1 c2
            have p0 := (unhide LA).a0
            have p1 := (unhide LA).a1
            have p2 := (unhide LA).a2
            have p3 := (unhide LA).a3
            go_wp2_with fail
            refine (cmpQI y.q lo.q _ _ _ _ _ ((unhide JY).is.later (unhide LA).bel) ((unhide JL).is.later (unhide LA).bel) (unhide JY).kn (unhide JY).kd (unhide JL).kn (unhide JL).kd).mono ?_
            rintro e w1 ⟨rfl, hb⟩
            have q0 : w1.cell? ⟨wr.heap.size, 0, none⟩ = some (.bool y.q.num.g) := cell_later hb (by simp [go_sem])
            have q1 : w1.cell? ⟨wr.heap.size, 1, none⟩ = some (.slice y.q.num.a y.q.num.n y.q.num.c) := cell_later hb (by simp [go_sem])
            have q2 : w1.cell? ⟨wr.heap.size, 2, none⟩ = some (.bool y.q.den.g) := cell_later hb (by simp [go_sem])
            have q3 : w1.cell? ⟨wr.heap.size, 3, none⟩ = some (.slice y.q.den.a y.q.den.n y.q.den.c) := cell_later hb (by simp [go_sem])
            have LB := hide ((unhide LA).later hb)
            clear hb LA E0 E1 E2 E3 p0 p1 p2 p3
            have pp0 := (unhide LB).b0
            have pp1 := (unhide LB).b1
            have pp2 := (unhide LB).b2
            have pp3 := (unhide LB).b3
            go_wp2_with fail
            refine (cmpQI y.q hi.q _ _ _ _ _ ((unhide JY).is.later (unhide LB).bel) ((unhide JH).is.later (unhide LB).bel) (unhide JY).kn (unhide JY).kd (unhide JH).kn (unhide JH).kd).mono ?_
            rintro e w2 ⟨rfl, hb⟩
            have s0 := cell_later hb q0
            have s1 := cell_later hb q1
            have s2 := cell_later hb q2
            have s3 := cell_later hb q3
            have LD := hide ((unhide LB).later hb)
            clear hb LB pp0 pp1 pp2 pp3 q0 q1 q2 q3
            go_wp2
            go_roundw
            case rel => exact ⟨i + 1, lo, hi, by omega, by go_num, hide (by rw [(unhide SL).1, (unhide NL).1]), hide (by rw [(unhide SL).2, (unhide NL).2]), JL, JH, LD⟩
            case measure => simp [intOf]; omega
      · obtain rfl : i = n := by omega
        have E1 : Hid (lo = l.foldl stLo x ∧ hi = l.foldl stHi x) := hide ⟨by rw [unhide EL, ← unhide HN, List.take_length], by rw [unhide EH, ← unhide HN, List.take_length]⟩
        have QL := hide ((unhide JL).is.later (unhide LL).bel)
        have QH := hide ((unhide JH).is.later (unhide LL).bel)
        have HB := hide (unhide LL).bel
        have k2_0 := (unhide LL).a0
        have k3_0 := (unhide LL).b0
        have k2_1 := (unhide LL).a1
        have k3_1 := (unhide LL).b1
        have k2_2 := (unhide LL).a2
        have k3_2 := (unhide LL).b2
        have k2_3 := (unhide LL).a3
        have k3_3 := (unhide LL).b3
        have k1_0 := (unhide LL).r0
        have k1_1 := (unhide LL).r1
        have k1_2 := (unhide LL).r2
        have k1_3 := (unhide LL).r3
        have k1_4 := (unhide LL).r4
        have k1_5 := (unhide LL).r5
        have k1_6 := (unhide LL).r6
        have k1_7 := (unhide LL).r7
        have z1 := (unhide LL).fr
        have wrl : w.heap.size + 1 < wr.heap.size := World.block_lt_of_cell? _ _ k1_0
        clear LL
        go_upto_region 10 with fail
        have ne2_1 : G1 ≠ w.heap.size + 1 := by omega
        have ne3_1 : G2 ≠ w.heap.size + 1 := by omega
        go_region_held3 (fun w' => w'.cell? ⟨G1, 0, none⟩ = some (.bool lo.q.num.g) ∧ w'.cell? ⟨G1, 1, none⟩ = some (.slice lo.q.num.a lo.q.num.n lo.q.num.c) ∧ w'.cell? ⟨G1, 2, none⟩ = some (.bool lo.q.den.g) ∧ w'.cell? ⟨G1, 3, none⟩ = some (.slice lo.q.den.a lo.q.den.n lo.q.den.c) ∧ w'.cell? ⟨G2, 0, none⟩ = some (.bool hi.q.num.g) ∧ w'.cell? ⟨G2, 1, none⟩ = some (.slice hi.q.num.a hi.q.num.n hi.q.num.c) ∧ w'.cell? ⟨G2, 2, none⟩ = some (.bool hi.q.den.g) ∧ w'.cell? ⟨G2, 3, none⟩ = some (.slice hi.q.den.a hi.q.den.n hi.q.den.c)) (with_reducible (first | exact ⟨k2_0, k2_1, k2_2, k2_3, k3_0, k3_1, k3_2, k3_3⟩ | exact ⟨cd_other k2_0, cd_other k2_1, cd_other k2_2, cd_other k2_3, cd_other k3_0, cd_other k3_1, cd_other k3_2, cd_other k3_3⟩ | exact ⟨cs_other (cs_other (cs_other (cs_other (cs_other (cs_other (cs_other (cs_other (k2_0) ne2_1) ne2_1) ne2_1) ne2_1) ne2_1) ne2_1) ne2_1) ne2_1, cs_other (cs_other (cs_other (cs_other (cs_other (cs_other (cs_other (cs_other (k2_1) ne2_1) ne2_1) ne2_1) ne2_1) ne2_1) ne2_1) ne2_1) ne2_1, cs_other (cs_other (cs_other (cs_other (cs_other (cs_other (cs_other (cs_other (k2_2) ne2_1) ne2_1) ne2_1) ne2_1) ne2_1) ne2_1) ne2_1) ne2_1, cs_other (cs_other (cs_other (cs_other (cs_other (cs_other (cs_other (cs_other (k2_3) ne2_1) ne2_1) ne2_1) ne2_1) ne2_1) ne2_1) ne2_1) ne2_1, cs_other (cs_other (cs_other (cs_other (cs_other (cs_other (cs_other (cs_other (k3_0) ne3_1) ne3_1) ne3_1) ne3_1) ne3_1) ne3_1) ne3_1) ne3_1, cs_other (cs_other (cs_other (cs_other (cs_other (cs_other (cs_other (cs_other (k3_1) ne3_1) ne3_1) ne3_1) ne3_1) ne3_1) ne3_1) ne3_1) ne3_1, cs_other (cs_other (cs_other (cs_other (cs_other (cs_other (cs_other (cs_other (k3_2) ne3_1) ne3_1) ne3_1) ne3_1) ne3_1) ne3_1) ne3_1) ne3_1, cs_other (cs_other (cs_other (cs_other (cs_other (cs_other (cs_other (cs_other (k3_3) ne3_1) ne3_1) ne3_1) ne3_1) ne3_1) ne3_1) ne3_1) ne3_1⟩ | fail))
          (first
          | (go_at_call_of 202 (Value.agg #[Value.bool lo.q.num.g, Value.slice lo.q.num.a lo.q.num.n lo.q.num.c, Value.bool lo.q.den.g, Value.slice lo.q.den.a lo.q.den.n lo.q.den.c]); refine (copyQ lo.q lo.N lo.D _ ?_ ((unhide JL).kn.mono (by omega)) ((unhide JL).kd.mono (by omega))).mono ?_; exact (unhide QL).later (Below.refl _ _).drew; rintro e w1 ⟨r1, x1, u1, rfl, hb, o1, a1, n1, m1⟩; have hbx : Below wr.heap.size wr w1 := below_of_drew hb; have szw1 := hbx.size; replace z1 := fun o => frozen_later hbx (World.block_lt_of_cell? _ _ k1_0) (z1 o); replace k2_0 := cell_later hbx k2_0; replace k3_0 := cell_later hbx k3_0; replace k2_1 := cell_later hbx k2_1; replace k3_1 := cell_later hbx k3_1; replace k2_2 := cell_later hbx k2_2; replace k3_2 := cell_later hbx k3_2; replace k2_3 := cell_later hbx k2_3; replace k3_3 := cell_later hbx k3_3; replace k1_0 := cell_later hbx k1_0; replace k1_1 := cell_later hbx k1_1; replace k1_2 := cell_later hbx k1_2; replace k1_3 := cell_later hbx k1_3; replace k1_4 := cell_later hbx k1_4; replace k1_5 := cell_later hbx k1_5; replace k1_6 := cell_later hbx k1_6; replace k1_7 := cell_later hbx k1_7; replace QL := hide ((unhide QL).later hbx); replace QH := hide ((unhide QH).later hbx); have o1x : AllOwn wr.heap.size w1.heap.size w1 [(r1.num, ⟨decide (lo.N < 0), x1⟩), (r1.den, ⟨decide (lo.D < 0), u1⟩)] := o1; have NN1 := hide (And.intro n1 m1); have O1 := hide (o1x); have A1 := hide (a1); have HBr := hide hbx; clear hbx hb o1 a1 n1 m1 o1x)
          | (go_at_call_of 202 (Value.agg #[Value.bool hi.q.num.g, Value.slice hi.q.num.a hi.q.num.n hi.q.num.c, Value.bool hi.q.den.g, Value.slice hi.q.den.a hi.q.den.n hi.q.den.c]); refine (copyQ hi.q hi.N hi.D _ ?_ ((unhide JH).kn.mono (by omega)) ((unhide JH).kd.mono (by omega))).mono ?_; exact (unhide QH).later (Below.refl _ _); rintro e w2 ⟨r2, x2, u2, rfl, hb, o2, a2, n2, m2⟩; have hbx : Below w1.heap.size w1 w2 := hb; have szw2 := hbx.size; replace z1 := fun o => frozen_later hbx (World.block_lt_of_cell? _ _ k1_0) (z1 o); replace k2_0 := cell_later hbx k2_0; replace k3_0 := cell_later hbx k3_0; replace k2_1 := cell_later hbx k2_1; replace k3_1 := cell_later hbx k3_1; replace k2_2 := cell_later hbx k2_2; replace k3_2 := cell_later hbx k3_2; replace k2_3 := cell_later hbx k2_3; replace k3_3 := cell_later hbx k3_3; replace k1_0 := cell_later hbx k1_0; replace k1_1 := cell_later hbx k1_1; replace k1_2 := cell_later hbx k1_2; replace k1_3 := cell_later hbx k1_3; replace k1_4 := cell_later hbx k1_4; replace k1_5 := cell_later hbx k1_5; replace k1_6 := cell_later hbx k1_6; replace k1_7 := cell_later hbx k1_7; replace QL := hide ((unhide QL).later hbx); replace QH := hide ((unhide QH).later hbx); replace O1 := hide ((unhide O1).later hbx); replace A1 := hide ((unhide A1).later hbx); have NN2 := hide (And.intro n2 m2); have O2 := hide (o2); have A2 := hide (a2); have HBr := hide (below_on (unhide HBr) hbx); clear hbx hb o2 a2 n2 m2))
        replace HB := hide (below_on (unhide HB) (unhide HBr))
        clear HBr
        have OO := hide (((unhide O1).join (unhide O2) (by omega) (by omega)).wide (lo' := w.heap.size + 1 + 1) (hi' := w2.heap.size) (by omega) (by omega))
        have AA := hide ((unhide A1).append (unhide A2))
        go_wp2
        refine bodyPost_ret (v := .agg #[.bool r1.num.g, .slice r1.num.a r1.num.n r1.num.c, .bool r1.den.g, .slice r1.den.a r1.den.n r1.den.c, .bool r2.num.g, .slice r2.num.a r2.num.n r2.num.c, .bool r2.den.g, .slice r2.den.a r2.den.n r2.den.c]) (by simp [results, Try.results164, go_sem, k1_0, k1_1, k1_2, k1_3, k1_4, k1_5, k1_6, k1_7]) rfl ?_
        rw [← (unhide E1).1, ← (unhide E1).2]
        exact outS_fin (v := ⟨r1, r2⟩) (R := w.heap.size + 1) (by omega) (unhide HB) (metS_but (w5 := w2) (v := ⟨r1, r2⟩) (G := w.heap.size + 1)) (unhide OO) (unhide AA) (unhide NN1).1 (unhide NN1).2 (unhide NN2).1 (unhide NN2).2
end Go.Proofs.Ytlmeokeanihhoaa
namespace Go.Proofs.Ytlmeokeanihhoaa
open Go.RowKit
set_option linter.unusedVariables false
set_option maxRecDepth 100000
set_option linter.unusedSimpArgs false

/-- In lowest terms, the denominator above 0. -/
structure Low (N D : Int) : Prop where
  pos : 0 < D
  co : Nat.gcd N.natAbs D.natAbs = 1
theorem Low.same {N D N' D' : Int} (h : Low N D) (k : Low N' D') (e : N * D' = N' * D) : N = N' ∧ D = D' := by
  have h1 : D.natAbs ∣ D'.natAbs := by
    have : D.natAbs ∣ N.natAbs * D'.natAbs := by rw [← Int.natAbs_mul, e, Int.natAbs_mul]; exact Nat.dvd_mul_left _ _
    exact Nat.Coprime.dvd_of_dvd_mul_left (by rw [Nat.Coprime, Nat.gcd_comm]; exact h.co) this
  have h2 : D'.natAbs ∣ D.natAbs := by
    have : D'.natAbs ∣ N'.natAbs * D.natAbs := by rw [← Int.natAbs_mul, ← e, Int.natAbs_mul]; exact Nat.dvd_mul_left _ _
    exact Nat.Coprime.dvd_of_dvd_mul_left (by rw [Nat.Coprime, Nat.gcd_comm]; exact k.co) this
  have h3 : D.natAbs = D'.natAbs := Nat.dvd_antisymm h1 h2
  have hp := h.pos
  have kp := k.pos
  have h4 : D = D' := by omega
  subst h4
  exact ⟨Int.eq_of_mul_eq_mul_right (by omega) e, rfl⟩
theorem low_low {N D : Int} (h : D ≠ 0) : Low (lowN N D) (lowD N D) := by
  refine ⟨lowD_pos h, ?_⟩
  have hg := gcd_pos_right (N := N) h
  have e1 : (lowN N D).natAbs = N.natAbs / Nat.gcd N.natAbs D.natAbs := by
    have h1 := lowN_abs N D
    unfold lowU at h1
    rw [← Int.natCast_ediv] at h1
    exact_mod_cast h1
  have e2 : (lowD N D).natAbs = D.natAbs / Nat.gcd N.natAbs D.natAbs := by
    have h1 := lowD_abs N D
    unfold lowD at h1 ⊢
    rw [← Int.natCast_ediv, Int.natAbs_natCast]
  rw [e1, e2]
  exact Nat.gcd_div_gcd_div_gcd_of_pos_right (by omega)
theorem low_cross {N D : Int} (h : 0 < D) : lowN N D * D = N * lowD N D := by
  have hg := gcd_pos_right (N := N) (show D ≠ 0 by omega)
  have d1 : ((Nat.gcd N.natAbs D.natAbs : Nat) : Int) ∣ (N.natAbs : Int) := by exact_mod_cast Nat.gcd_dvd_left _ _
  have d2 : ((Nat.gcd N.natAbs D.natAbs : Nat) : Int) ∣ (D.natAbs : Int) := by exact_mod_cast Nat.gcd_dvd_right _ _
  have m1 := Int.ediv_mul_cancel d1
  have m2 := Int.ediv_mul_cancel d2
  unfold lowN lowD lowU sU
  generalize (N.natAbs : Int) / ((Nat.gcd N.natAbs D.natAbs : Nat) : Int) = a at *
  generalize (D.natAbs : Int) / ((Nat.gcd N.natAbs D.natAbs : Nat) : Int) = b at *
  generalize ((Nat.gcd N.natAbs D.natAbs : Nat) : Int) = g at *
  rw [decide_eq_false (show ¬ D < 0 by omega)]
  have hD : D = b * g := by omega
  by_cases c : N < 0
  · have hN : N = -(a * g) := by omega
    rw [decide_eq_true c, if_pos (by rfl), hN, hD]
    simp only [Int.neg_mul, Int.mul_neg, Int.mul_comm, Int.mul_left_comm]
  · have hN : N = a * g := by omega
    rw [decide_eq_false c, if_neg (by simp), hN, hD]
    simp only [Int.mul_comm, Int.mul_left_comm]
/-- A slice of one fraction that the program has just made. -/
theorem rats_one {w : World} {r : RQ} {t : TypeId} (h : RQ.Is w r) : Rats (w.alloc (.cells #[.bool r.q.num.g, .slice r.q.num.a r.q.num.n r.q.num.c, .bool r.q.den.g, .slice r.q.den.a r.q.den.n r.q.den.c] t)) w.heap.size 0 [r] := by
  refine ⟨fun i hi => ?_, fun i hi => ?_, by simp⟩
  · obtain rfl : i = 0 := by simp at hi; omega
    simp [go_sem]
  · obtain rfl : i = 0 := by simp at hi; omega
    exact ⟨h.is.later ((Below.refl _ _).alloc (Nat.le_refl _) _), h.kn, h.kd⟩
end Go.Proofs.Ytlmeokeanihhoaa
namespace Go.Proofs.Ytlmeokeanihhoaa
open Go.RowKit
set_option linter.unusedVariables false
set_option maxRecDepth 100000
set_option linter.unusedSimpArgs false

set_option maxHeartbeats 4000000 in
theorem wholeI (n : Int) (w : World) (h0 : -9223372036854775808 ≤ n) (h1 : n ≤ 9223372036854775807) : Calls Try.prog 165 #[.int .i64 n] w (OutQ w n 1) := by
  have B0 := hide (show Below w.heap.size w (w.alloc (.cells #[.bool false, .slice none 0 0, .bool false, .slice none 0 0] 30)) from ((Below.refl _ _).alloc (by simp) _))
  go_enter Try.func165, Try.ntmps165
  go_wp2_with fail
  refine (ofI_v n _ h0 h1).mono ?_
  rintro e w1 ⟨x1, l1, rfl, hb, o1, a1, n1⟩
  have s1 : w.heap.size + 1 ≤ w1.heap.size := by have := hb.size; simp at this; omega
  replace o1 := o1.wide (lo' := w.heap.size + 1) (by simp) (Nat.le_refl _)
  have k0_0 : w1.cell? ⟨w.heap.size, 0, none⟩ = some (.bool false) := cell_later hb (by simp [go_sem])
  have k0_1 : w1.cell? ⟨w.heap.size, 1, none⟩ = some (.slice none 0 0) := cell_later hb (by simp [go_sem])
  have k0_2 : w1.cell? ⟨w.heap.size, 2, none⟩ = some (.bool false) := cell_later hb (by simp [go_sem])
  have k0_3 : w1.cell? ⟨w.heap.size, 3, none⟩ = some (.slice none 0 0) := cell_later hb (by simp [go_sem])
  have z0 : ∀ o, w1.frozen? ⟨w.heap.size, o, none⟩ = false := fun o => frozen_later hb (by simp) (by simp [go_sem])
  have P1 := hide (outN_ow o1 a1 n1)
  have HB := hide (below_on (unhide B0) hb)
  clear hb
  clear o1 a1 n1
  go_wp2_with fail
  refine (ofI_v 1 _ (by omega) (by omega)).mono ?_
  rintro e w2 ⟨x2, l2, rfl, hb, o2, a2, n2⟩
  have s2 := hb.size
  replace z0 := fun o => frozen_later hb (World.block_lt_of_cell? _ _ k0_0) (z0 o)
  replace k0_0 := cell_later hb k0_0
  replace k0_1 := cell_later hb k0_1
  replace k0_2 := cell_later hb k0_2
  replace k0_3 := cell_later hb k0_3
  replace P1 := hide ((unhide P1).later hb)
  have P2 := hide (outN_ow o2 a2 n2)
  replace HB := hide (below_on (unhide HB) hb)
  clear hb
  clear o2 a2 n2
  go_wp2
  refine bodyPost_ret (v := .agg #[.bool x1.g, .slice x1.a x1.n x1.c, .bool x2.g, .slice x2.a x2.n x2.c]) (by simp [results, Try.results165, go_sem, k0_0, k0_1, k0_2, k0_3]) rfl ?_
  obtain ⟨zs, us, oo, aa, m1, m2⟩ := (unhide P1).two (unhide P2) s1 s2
  exact outQ_fin (q := ⟨x1, x2⟩) (R := w.heap.size) (Nat.le_refl _) (unhide HB) (metQ_but (w5 := w2) (v := ⟨x1, x2⟩) (G := w.heap.size)) oo aa m1 m2

set_option maxHeartbeats 4000000 in
theorem wholeS (n : Int) (w : World) (h0 : -9223372036854775808 ≤ n) (h1 : n ≤ 9223372036854775807) : Calls Try.prog 95 #[.int .i64 n] w (OutQ w n 1) := by
  have B0 := hide (show Below w.heap.size w (w.alloc (.cells #[.bool false, .slice none 0 0, .bool false, .slice none 0 0] 30)) from ((Below.refl _ _).alloc (by simp) _))
  go_enter Try.func95, Try.ntmps95
  go_wp2_with fail
  refine (ofS_v n _ h0 h1).mono ?_
  rintro e w1 ⟨x1, l1, rfl, hb, o1, a1, n1⟩
  have s1 : w.heap.size + 1 ≤ w1.heap.size := by have := hb.size; simp at this; omega
  replace o1 := o1.wide (lo' := w.heap.size + 1) (by simp) (Nat.le_refl _)
  have k0_0 : w1.cell? ⟨w.heap.size, 0, none⟩ = some (.bool false) := cell_later hb (by simp [go_sem])
  have k0_1 : w1.cell? ⟨w.heap.size, 1, none⟩ = some (.slice none 0 0) := cell_later hb (by simp [go_sem])
  have k0_2 : w1.cell? ⟨w.heap.size, 2, none⟩ = some (.bool false) := cell_later hb (by simp [go_sem])
  have k0_3 : w1.cell? ⟨w.heap.size, 3, none⟩ = some (.slice none 0 0) := cell_later hb (by simp [go_sem])
  have z0 : ∀ o, w1.frozen? ⟨w.heap.size, o, none⟩ = false := fun o => frozen_later hb (by simp) (by simp [go_sem])
  have P1 := hide (outN_ow o1 a1 n1)
  have HB := hide (below_on (unhide B0) hb)
  clear hb
  clear o1 a1 n1
  go_wp2_with fail
  refine (ofS_v 1 _ (by omega) (by omega)).mono ?_
  rintro e w2 ⟨x2, l2, rfl, hb, o2, a2, n2⟩
  have s2 := hb.size
  replace z0 := fun o => frozen_later hb (World.block_lt_of_cell? _ _ k0_0) (z0 o)
  replace k0_0 := cell_later hb k0_0
  replace k0_1 := cell_later hb k0_1
  replace k0_2 := cell_later hb k0_2
  replace k0_3 := cell_later hb k0_3
  replace P1 := hide ((unhide P1).later hb)
  have P2 := hide (outN_ow o2 a2 n2)
  replace HB := hide (below_on (unhide HB) hb)
  clear hb
  clear o2 a2 n2
  go_wp2
  refine bodyPost_ret (v := .agg #[.bool x1.g, .slice x1.a x1.n x1.c, .bool x2.g, .slice x2.a x2.n x2.c]) (by simp [results, Try.results95, go_sem, k0_0, k0_1, k0_2, k0_3]) rfl ?_
  obtain ⟨zs, us, oo, aa, m1, m2⟩ := (unhide P1).two (unhide P2) s1 s2
  exact outQ_fin (q := ⟨x1, x2⟩) (R := w.heap.size) (Nat.le_refl _) (unhide HB) (metQ_but (w5 := w2) (v := ⟨x1, x2⟩) (G := w.heap.size)) oo aa m1 m2

set_option maxHeartbeats 2000000 in
theorem hasN_raw (g1 g2 g3 g4 : Bool) (a1 a2 a3 a4 : Option Addr) (n1 n2 n3 n4 c1 c2 c3 c4 : Nat) (w : World) (hm : n1 ≤ maxLen) :
    Calls Try.prog 107 #[.agg #[.bool g1, .slice a1 n1 c1, .bool g2, .slice a2 n2 c2, .bool g3, .slice a3 n3 c3, .bool g4, .slice a4 n4 c4]] w fun e w' => e = .returned (.bool ((g1 || decide (n1 = 0)) && !g3)) ∧ Below w.heap.size w w' := by
  cases g1
  · have N1 := hide (fun w1 => nought_any false a1 n1 c1 w1 hm)
    clear hm
    cases hz : decide (n1 = 0)
    · rw [hz] at N1
      clear hz
      cases g3
      · have B0 := hide (show Below w.heap.size w (w.alloc (.cells #[.bool false, .slice a1 n1 c1, .bool g2, .slice a2 n2 c2, .bool false, .slice a3 n3 c3, .bool g4, .slice a4 n4 c4] 41)) from ((Below.refl _ _).alloc (by simp) _))
        go_enter Try.func107, Try.ntmps107
        go_wp2_with fail
        refine (unhide N1 _).mono ?_
        rintro e w1 ⟨rfl, hb⟩
        have k0_4 : w1.cell? ⟨w.heap.size, 4, none⟩ = some (.bool false) := cell_later hb (by simp [go_sem])
        have HB := hide (below_on (unhide B0) hb)
        clear hb
        go_wp2
        go_ret
        exact ⟨rfl, unhide HB⟩
      · have B0 := hide (show Below w.heap.size w (w.alloc (.cells #[.bool false, .slice a1 n1 c1, .bool g2, .slice a2 n2 c2, .bool true, .slice a3 n3 c3, .bool g4, .slice a4 n4 c4] 41)) from ((Below.refl _ _).alloc (by simp) _))
        go_enter Try.func107, Try.ntmps107
        go_wp2_with fail
        refine (unhide N1 _).mono ?_
        rintro e w1 ⟨rfl, hb⟩
        have k0_4 : w1.cell? ⟨w.heap.size, 4, none⟩ = some (.bool true) := cell_later hb (by simp [go_sem])
        have HB := hide (below_on (unhide B0) hb)
        clear hb
        go_wp2
        go_ret
        exact ⟨rfl, unhide HB⟩
    · rw [hz] at N1
      clear hz
      cases g3
      · have B0 := hide (show Below w.heap.size w (w.alloc (.cells #[.bool false, .slice a1 n1 c1, .bool g2, .slice a2 n2 c2, .bool false, .slice a3 n3 c3, .bool g4, .slice a4 n4 c4] 41)) from ((Below.refl _ _).alloc (by simp) _))
        go_enter Try.func107, Try.ntmps107
        go_wp2_with fail
        refine (unhide N1 _).mono ?_
        rintro e w1 ⟨rfl, hb⟩
        have k0_4 : w1.cell? ⟨w.heap.size, 4, none⟩ = some (.bool false) := cell_later hb (by simp [go_sem])
        have HB := hide (below_on (unhide B0) hb)
        clear hb
        go_wp2
        go_ret
        exact ⟨rfl, unhide HB⟩
      · have B0 := hide (show Below w.heap.size w (w.alloc (.cells #[.bool false, .slice a1 n1 c1, .bool g2, .slice a2 n2 c2, .bool true, .slice a3 n3 c3, .bool g4, .slice a4 n4 c4] 41)) from ((Below.refl _ _).alloc (by simp) _))
        go_enter Try.func107, Try.ntmps107
        go_wp2_with fail
        refine (unhide N1 _).mono ?_
        rintro e w1 ⟨rfl, hb⟩
        have k0_4 : w1.cell? ⟨w.heap.size, 4, none⟩ = some (.bool true) := cell_later hb (by simp [go_sem])
        have HB := hide (below_on (unhide B0) hb)
        clear hb
        go_wp2
        go_ret
        exact ⟨rfl, unhide HB⟩
  · clear hm
    cases g3
    · have B0 := hide (show Below w.heap.size w (w.alloc (.cells #[.bool true, .slice a1 n1 c1, .bool g2, .slice a2 n2 c2, .bool false, .slice a3 n3 c3, .bool g4, .slice a4 n4 c4] 41)) from ((Below.refl _ _).alloc (by simp) _))
      go_enter Try.func107, Try.ntmps107
      go_wp2
      go_ret
      exact ⟨rfl, unhide B0⟩
    · have B0 := hide (show Below w.heap.size w (w.alloc (.cells #[.bool true, .slice a1 n1 c1, .bool g2, .slice a2 n2 c2, .bool true, .slice a3 n3 c3, .bool g4, .slice a4 n4 c4] 41)) from ((Below.refl _ _).alloc (by simp) _))
      go_enter Try.func107, Try.ntmps107
      go_wp2
      go_ret
      exact ⟨rfl, unhide B0⟩

/-- Whether a span has 0 within, as the program asks. -/
def hN (d : SD) : Bool := (d.lo.num.g || decide (d.lo.num.xs.length = 0)) && !d.hi.num.g
theorem hasN_v (v : SV) (d : SD) (w : World) (h : AllAr w [(v.lo.num, d.lo.num), (v.lo.den, d.lo.den), (v.hi.num, d.hi.num), (v.hi.den, d.hi.den)]) :
    Calls Try.prog 107 #[.agg #[.bool v.lo.num.g, .slice v.lo.num.a v.lo.num.n v.lo.num.c, .bool v.lo.den.g, .slice v.lo.den.a v.lo.den.n v.lo.den.c, .bool v.hi.num.g, .slice v.hi.num.a v.hi.num.n v.hi.num.c, .bool v.hi.den.g, .slice v.hi.den.a v.hi.den.n v.hi.den.c]] w fun e w' => e = .returned (.bool (hN d)) ∧ Below w.heap.size w w' := by
  have e1 := h.head.sg
  have e2 := h.head.ar.len
  have e3 := h.tail.tail.head.sg
  unfold hN
  rw [e2, ← e1, ← e3]
  exact hasN_raw _ _ _ _ _ _ _ _ _ _ _ _ _ _ _ _ w (Nat.le_trans h.head.ar.cap h.head.ar.top)
def zQD : QD := ⟨⟨false, []⟩, ⟨false, [1]⟩⟩
theorem zQD_n : nQ zQD = 0 := by decide
theorem zQD_d : dQ zQD = 1 := by decide
theorem isGood_zero {w : World} {q : QV} (h : IsQ w q 0 1) : IsGood w q zQD := by
  refine ⟨by rw [zQD_n, zQD_d]; exact h, ?_, ?_, by rw [zQD_d]; omega, by rw [zQD_n, zQD_d]; rfl⟩
  · rw [zQD_n]; exact ⟨by decide⟩
  · rw [zQD_d]; exact ⟨by decide⟩
/-- A good number is below 0 where its sign says so, 0 without limbs. -/
theorem goodB_neg {g : Bool} {xs : List Int} (h : goodB g xs = true) : (sv g xs < 0 ↔ g = true) ∧ (sv g xs = 0 ↔ xs.length = 0) := by
  obtain ⟨h1, h2, h3, h4⟩ := good_parts h
  have hv := val_nonneg h1
  have hz := val_zero_iff h1 h2
  have hl : xs = [] ↔ xs.length = 0 := List.length_eq_zero_iff.symm
  unfold sv
  cases g
  · rw [if_neg (by simp)]
    exact ⟨⟨fun e => by omega, fun e => by cases e⟩, hz.trans hl⟩
  · rw [if_pos rfl]
    have h5 : xs ≠ [] := fun e => by cases h4 e
    have h6 : val xs ≠ 0 := fun e => h5 (hz.1 e)
    exact ⟨⟨fun _ => rfl, fun _ => by omega⟩, ⟨fun e => by omega, fun e => absurd (hl.2 e) h5⟩⟩
theorem goodS_nums {d : SD} (hg : gS d = true) : goodB d.lo.num.g d.lo.num.xs = true ∧ goodB d.hi.num.g d.hi.num.xs = true := by
  unfold gS at hg
  simp only [Bool.and_eq_true, decide_eq_true_eq] at hg
  exact ⟨(goodR_parts hg.1.1).1, (goodR_parts hg.1.2).1⟩
theorem hN_iff {d : SD} (hg : gS d = true) : hN d = true ↔ (nQ d.lo ≤ 0 ∧ 0 ≤ nQ d.hi) := by
  obtain ⟨g1, g2⟩ := goodS_nums hg
  have a := goodB_neg g1
  have b := goodB_neg g2
  unfold hN nQ
  generalize sv d.lo.num.g d.lo.num.xs = x at *
  generalize sv d.hi.num.g d.hi.num.xs = y at *
  rw [Bool.and_eq_true, Bool.or_eq_true, decide_eq_true_eq, ← a.1, ← a.2]
  refine and_congr (by omega) ?_
  cases hh : d.hi.num.g
  · refine ⟨fun _ => ?_, fun _ => rfl⟩
    have : ¬ y < 0 := fun e => by have := b.1.1 e; rw [hh] at this; cases this
    omega
  · refine ⟨fun e => (by cases e), fun e => ?_⟩
    have := b.1.2 hh
    omega
theorem inQ_zero {d : SD} (hg : gS d = true) : inQ d zQD = hN d := by
  have h := hN_iff hg
  have e : inQ d zQD = true ↔ (nQ d.lo ≤ 0 ∧ 0 ≤ nQ d.hi) := by
    unfold inQ
    rw [zQD_n, zQD_d, Bool.and_eq_true, decide_eq_true_eq, decide_eq_true_eq, Int.mul_one, Int.mul_one, Int.zero_mul, Int.zero_mul]
  exact Bool.eq_iff_iff.2 (e.trans h.symm)
end Go.Proofs.Ytlmeokeanihhoaa
namespace Go.Proofs.Ytlmeokeanihhoaa
open Go.RowKit
set_option linter.unusedVariables false
set_option maxRecDepth 100000
set_option linter.unusedSimpArgs false

set_option maxHeartbeats 2000000 in
theorem spanFits_v (v : SV) (w : World) (m1 : v.lo.den.n ≤ maxLen) (m2 : v.hi.den.n ≤ maxLen) :
    Calls Try.prog 163 #[.agg #[.bool v.lo.num.g, .slice v.lo.num.a v.lo.num.n v.lo.num.c, .bool v.lo.den.g, .slice v.lo.den.a v.lo.den.n v.lo.den.c, .bool v.hi.num.g, .slice v.hi.num.a v.hi.num.n v.hi.num.c, .bool v.hi.den.g, .slice v.hi.den.a v.hi.den.n v.hi.den.c]] w fun e w' => e = .returned (.bool (decide ((v.lo.den.n ≠ 0 ∧ v.lo.num.n ≤ 40 ∧ v.lo.den.n ≤ 40) ∧ (v.hi.den.n ≠ 0 ∧ v.hi.num.n ≤ 40 ∧ v.hi.den.n ≤ 40)))) ∧ Below w.heap.size w w' := by
  cases c1 : decide (v.lo.den.n ≠ 0 ∧ v.lo.num.n ≤ 40 ∧ v.lo.den.n ≤ 40)
  · have F1 := hide (fun w1 => fitsI v.lo w1 m1)
    have F2 := hide (fun w1 => fitsI v.hi w1 m2)
    rw [c1] at F1
    rw [show decide ((v.lo.den.n ≠ 0 ∧ v.lo.num.n ≤ 40 ∧ v.lo.den.n ≤ 40) ∧ (v.hi.den.n ≠ 0 ∧ v.hi.num.n ≤ 40 ∧ v.hi.den.n ≤ 40)) = false from decide_eq_false (fun h => absurd h.1 (of_decide_eq_false c1))]
    clear c1
    have B0 := hide (show Below w.heap.size w (w.alloc (.cells #[.bool v.lo.num.g, .slice v.lo.num.a v.lo.num.n v.lo.num.c, .bool v.lo.den.g, .slice v.lo.den.a v.lo.den.n v.lo.den.c, .bool v.hi.num.g, .slice v.hi.num.a v.hi.num.n v.hi.num.c, .bool v.hi.den.g, .slice v.hi.den.a v.hi.den.n v.hi.den.c] 41)) from ((Below.refl _ _).alloc (by simp) _))
    go_enter Try.func163, Try.ntmps163
    go_wp2_with fail
    refine (unhide F1 _).mono ?_
    rintro e w1 ⟨rfl, hb⟩
    have HB := hide (below_on (unhide B0) hb)
    clear hb
    go_wp2
    go_ret
    exact ⟨rfl, unhide HB⟩
  cases c2 : decide (v.hi.den.n ≠ 0 ∧ v.hi.num.n ≤ 40 ∧ v.hi.den.n ≤ 40)
  · have F1 := hide (fun w1 => fitsI v.lo w1 m1)
    have F2 := hide (fun w1 => fitsI v.hi w1 m2)
    rw [c1] at F1
    rw [c2] at F2
    rw [show decide ((v.lo.den.n ≠ 0 ∧ v.lo.num.n ≤ 40 ∧ v.lo.den.n ≤ 40) ∧ (v.hi.den.n ≠ 0 ∧ v.hi.num.n ≤ 40 ∧ v.hi.den.n ≤ 40)) = false from decide_eq_false (fun h => absurd h.2 (of_decide_eq_false c2))]
    clear c1 c2
    have B0 := hide (show Below w.heap.size w (w.alloc (.cells #[.bool v.lo.num.g, .slice v.lo.num.a v.lo.num.n v.lo.num.c, .bool v.lo.den.g, .slice v.lo.den.a v.lo.den.n v.lo.den.c, .bool v.hi.num.g, .slice v.hi.num.a v.hi.num.n v.hi.num.c, .bool v.hi.den.g, .slice v.hi.den.a v.hi.den.n v.hi.den.c] 41)) from ((Below.refl _ _).alloc (by simp) _))
    go_enter Try.func163, Try.ntmps163
    go_wp2_with fail
    refine (unhide F1 _).mono ?_
    rintro e w1 ⟨rfl, hb⟩
    have k0_4 : w1.cell? ⟨w.heap.size, 4, none⟩ = some (.bool v.hi.num.g) := cell_later hb (by simp [go_sem])
    have k0_5 : w1.cell? ⟨w.heap.size, 5, none⟩ = some (.slice v.hi.num.a v.hi.num.n v.hi.num.c) := cell_later hb (by simp [go_sem])
    have k0_6 : w1.cell? ⟨w.heap.size, 6, none⟩ = some (.bool v.hi.den.g) := cell_later hb (by simp [go_sem])
    have k0_7 : w1.cell? ⟨w.heap.size, 7, none⟩ = some (.slice v.hi.den.a v.hi.den.n v.hi.den.c) := cell_later hb (by simp [go_sem])
    have HB := hide (below_on (unhide B0) hb)
    clear hb
    go_wp2_with fail
    refine (unhide F2 _).mono ?_
    rintro e w2 ⟨rfl, hb⟩
    clear k0_4 k0_5 k0_6 k0_7
    replace HB := hide (below_on (unhide HB) hb)
    clear hb
    go_wp2
    go_ret
    exact ⟨rfl, unhide HB⟩
  · have F1 := hide (fun w1 => fitsI v.lo w1 m1)
    have F2 := hide (fun w1 => fitsI v.hi w1 m2)
    rw [c1] at F1
    rw [c2] at F2
    rw [show decide ((v.lo.den.n ≠ 0 ∧ v.lo.num.n ≤ 40 ∧ v.lo.den.n ≤ 40) ∧ (v.hi.den.n ≠ 0 ∧ v.hi.num.n ≤ 40 ∧ v.hi.den.n ≤ 40)) = true from decide_eq_true ⟨of_decide_eq_true c1, of_decide_eq_true c2⟩]
    clear c1 c2
    have B0 := hide (show Below w.heap.size w (w.alloc (.cells #[.bool v.lo.num.g, .slice v.lo.num.a v.lo.num.n v.lo.num.c, .bool v.lo.den.g, .slice v.lo.den.a v.lo.den.n v.lo.den.c, .bool v.hi.num.g, .slice v.hi.num.a v.hi.num.n v.hi.num.c, .bool v.hi.den.g, .slice v.hi.den.a v.hi.den.n v.hi.den.c] 41)) from ((Below.refl _ _).alloc (by simp) _))
    go_enter Try.func163, Try.ntmps163
    go_wp2_with fail
    refine (unhide F1 _).mono ?_
    rintro e w1 ⟨rfl, hb⟩
    have k0_4 : w1.cell? ⟨w.heap.size, 4, none⟩ = some (.bool v.hi.num.g) := cell_later hb (by simp [go_sem])
    have k0_5 : w1.cell? ⟨w.heap.size, 5, none⟩ = some (.slice v.hi.num.a v.hi.num.n v.hi.num.c) := cell_later hb (by simp [go_sem])
    have k0_6 : w1.cell? ⟨w.heap.size, 6, none⟩ = some (.bool v.hi.den.g) := cell_later hb (by simp [go_sem])
    have k0_7 : w1.cell? ⟨w.heap.size, 7, none⟩ = some (.slice v.hi.den.a v.hi.den.n v.hi.den.c) := cell_later hb (by simp [go_sem])
    have HB := hide (below_on (unhide B0) hb)
    clear hb
    go_wp2_with fail
    refine (unhide F2 _).mono ?_
    rintro e w2 ⟨rfl, hb⟩
    clear k0_4 k0_5 k0_6 k0_7
    replace HB := hide (below_on (unhide HB) hb)
    clear hb
    go_wp2
    go_ret
    exact ⟨rfl, unhide HB⟩

def RetSin (lo hi : Nat) (w : World) (U : SD → Bool → Prop) (e : Ending) (w' : World) : Prop := ∃ (v : SV) (d : SD) (ok : Bool), e = .returned (.tuple #[.agg #[.bool v.lo.num.g, .slice v.lo.num.a v.lo.num.n v.lo.num.c, .bool v.lo.den.g, .slice v.lo.den.a v.lo.den.n v.lo.den.c, .bool v.hi.num.g, .slice v.hi.num.a v.hi.num.n v.hi.num.c, .bool v.hi.den.g, .slice v.hi.den.a v.hi.den.n v.hi.den.c], .bool ok]) ∧ Below w.heap.size w w' ∧ AllOwn lo hi w' [(v.lo.num, d.lo.num), (v.lo.den, d.lo.den), (v.hi.num, d.hi.num), (v.hi.den, d.hi.den)] ∧ U d ok
set_option maxHeartbeats 2000000 in
theorem whereS_yes (v : SV) (d : SD) (lo hi : Nat) (w : World) (ho : AllOwn lo hi w [(v.lo.num, d.lo.num), (v.lo.den, d.lo.den), (v.hi.num, d.hi.num), (v.hi.den, d.hi.den)]) (hh : hi ≤ w.heap.size) (m1 : v.lo.den.n ≤ maxLen) (m2 : v.hi.den.n ≤ maxLen) (hf : decide ((v.lo.den.n ≠ 0 ∧ v.lo.num.n ≤ 40 ∧ v.lo.den.n ≤ 40) ∧ (v.hi.den.n ≠ 0 ∧ v.hi.num.n ≤ 40 ∧ v.hi.den.n ≤ 40)) = true) :
    Calls Try.prog 162 #[.agg #[.bool v.lo.num.g, .slice v.lo.num.a v.lo.num.n v.lo.num.c, .bool v.lo.den.g, .slice v.lo.den.a v.lo.den.n v.lo.den.c, .bool v.hi.num.g, .slice v.hi.num.a v.hi.num.n v.hi.num.c, .bool v.hi.den.g, .slice v.hi.den.a v.hi.den.n v.hi.den.c], .func (Fn.func 163) #[] #[]] w (RetSin lo hi w (fun d' ok => d' = d ∧ ok = true)) := by
  have HO := hide ho
  clear ho
  have HF := hide (fun w1 => spanFits_v v w1 m1 m2)
  rw [hf] at HF
  clear hf
  have B0 := hide (show Below w.heap.size w ((w.alloc (.cells #[.bool v.lo.num.g, .slice v.lo.num.a v.lo.num.n v.lo.num.c, .bool v.lo.den.g, .slice v.lo.den.a v.lo.den.n v.lo.den.c, .bool v.hi.num.g, .slice v.hi.num.a v.hi.num.n v.hi.num.c, .bool v.hi.den.g, .slice v.hi.den.a v.hi.den.n v.hi.den.c] 41)).alloc (.cells #[.bool false, .slice none 0 0, .bool false, .slice none 0 0, .bool false, .slice none 0 0, .bool false, .slice none 0 0] 41)) from (((Below.refl _ _).alloc (by simp) _).alloc (by simp) _))
  go_enter Try.func162, Try.ntmps162
  go_wp2_with fail
  refine (unhide HF _).mono ?_
  rintro e w1 ⟨rfl, hb⟩
  have s1 : w.heap.size + 1 < w1.heap.size := by have := hb.size; simp at this; omega
  have k0_0 : w1.cell? ⟨w.heap.size, 0, none⟩ = some (.bool v.lo.num.g) := cell_later hb (by simp [go_sem])
  have k0_1 : w1.cell? ⟨w.heap.size, 1, none⟩ = some (.slice v.lo.num.a v.lo.num.n v.lo.num.c) := cell_later hb (by simp [go_sem])
  have k0_2 : w1.cell? ⟨w.heap.size, 2, none⟩ = some (.bool v.lo.den.g) := cell_later hb (by simp [go_sem])
  have k0_3 : w1.cell? ⟨w.heap.size, 3, none⟩ = some (.slice v.lo.den.a v.lo.den.n v.lo.den.c) := cell_later hb (by simp [go_sem])
  have k0_4 : w1.cell? ⟨w.heap.size, 4, none⟩ = some (.bool v.hi.num.g) := cell_later hb (by simp [go_sem])
  have k0_5 : w1.cell? ⟨w.heap.size, 5, none⟩ = some (.slice v.hi.num.a v.hi.num.n v.hi.num.c) := cell_later hb (by simp [go_sem])
  have k0_6 : w1.cell? ⟨w.heap.size, 6, none⟩ = some (.bool v.hi.den.g) := cell_later hb (by simp [go_sem])
  have k0_7 : w1.cell? ⟨w.heap.size, 7, none⟩ = some (.slice v.hi.den.a v.hi.den.n v.hi.den.c) := cell_later hb (by simp [go_sem])
  have k1_0 : w1.cell? ⟨w.heap.size + 1, 0, none⟩ = some (.bool false) := cell_later hb (by simp [go_sem])
  have k1_1 : w1.cell? ⟨w.heap.size + 1, 1, none⟩ = some (.slice none 0 0) := cell_later hb (by simp [go_sem])
  have k1_2 : w1.cell? ⟨w.heap.size + 1, 2, none⟩ = some (.bool false) := cell_later hb (by simp [go_sem])
  have k1_3 : w1.cell? ⟨w.heap.size + 1, 3, none⟩ = some (.slice none 0 0) := cell_later hb (by simp [go_sem])
  have k1_4 : w1.cell? ⟨w.heap.size + 1, 4, none⟩ = some (.bool false) := cell_later hb (by simp [go_sem])
  have k1_5 : w1.cell? ⟨w.heap.size + 1, 5, none⟩ = some (.slice none 0 0) := cell_later hb (by simp [go_sem])
  have k1_6 : w1.cell? ⟨w.heap.size + 1, 6, none⟩ = some (.bool false) := cell_later hb (by simp [go_sem])
  have k1_7 : w1.cell? ⟨w.heap.size + 1, 7, none⟩ = some (.slice none 0 0) := cell_later hb (by simp [go_sem])
  have z1 : ∀ o, w1.frozen? ⟨w.heap.size + 1, o, none⟩ = false := fun o => frozen_later hb (by simp) (by simp [go_sem])
  have HB := hide (below_on (unhide B0) hb)
  clear hb
  go_wp2
  refine bodyPost_ret (v := .tuple #[.agg #[.bool v.lo.num.g, .slice v.lo.num.a v.lo.num.n v.lo.num.c, .bool v.lo.den.g, .slice v.lo.den.a v.lo.den.n v.lo.den.c, .bool v.hi.num.g, .slice v.hi.num.a v.hi.num.n v.hi.num.c, .bool v.hi.den.g, .slice v.hi.den.a v.hi.den.n v.hi.den.c], .bool true]) (by simp [results, Try.results162, go_sem, k1_0, k1_1, k1_2, k1_3, k1_4, k1_5, k1_6, k1_7]) rfl ?_
  have bt := metS_but (w5 := w1) (v := v) (G := w.heap.size + 1)
  exact ⟨v, d, true, rfl, bt.below (unhide HB) (by omega) (unhide HB).size, ((unhide HO).later (unhide HB)).but bt (.inl (by omega)), rfl, rfl⟩

set_option maxHeartbeats 2000000 in
theorem whereS_no (v : SV) (lo hi : Nat) (w : World) (m1 : v.lo.den.n ≤ maxLen) (m2 : v.hi.den.n ≤ maxLen) (hf : decide ((v.lo.den.n ≠ 0 ∧ v.lo.num.n ≤ 40 ∧ v.lo.den.n ≤ 40) ∧ (v.hi.den.n ≠ 0 ∧ v.hi.num.n ≤ 40 ∧ v.hi.den.n ≤ 40)) = false) :
    Calls Try.prog 162 #[.agg #[.bool v.lo.num.g, .slice v.lo.num.a v.lo.num.n v.lo.num.c, .bool v.lo.den.g, .slice v.lo.den.a v.lo.den.n v.lo.den.c, .bool v.hi.num.g, .slice v.hi.num.a v.hi.num.n v.hi.num.c, .bool v.hi.den.g, .slice v.hi.den.a v.hi.den.n v.hi.den.c], .func (Fn.func 163) #[] #[]] w (RetSin lo hi w (fun d' ok => d' = (⟨⟨⟨false, []⟩, ⟨false, []⟩⟩, ⟨⟨false, []⟩, ⟨false, []⟩⟩⟩ : SD) ∧ ok = false)) := by
  have HF := hide (fun w1 => spanFits_v v w1 m1 m2)
  rw [hf] at HF
  clear hf
  have B0 := hide (show Below w.heap.size w ((w.alloc (.cells #[.bool v.lo.num.g, .slice v.lo.num.a v.lo.num.n v.lo.num.c, .bool v.lo.den.g, .slice v.lo.den.a v.lo.den.n v.lo.den.c, .bool v.hi.num.g, .slice v.hi.num.a v.hi.num.n v.hi.num.c, .bool v.hi.den.g, .slice v.hi.den.a v.hi.den.n v.hi.den.c] 41)).alloc (.cells #[.bool false, .slice none 0 0, .bool false, .slice none 0 0, .bool false, .slice none 0 0, .bool false, .slice none 0 0] 41)) from (((Below.refl _ _).alloc (by simp) _).alloc (by simp) _))
  go_enter Try.func162, Try.ntmps162
  go_wp2_with fail
  refine (unhide HF _).mono ?_
  rintro e w1 ⟨rfl, hb⟩
  have s1 : w.heap.size + 1 < w1.heap.size := by have := hb.size; simp at this; omega
  have k1_0 : w1.cell? ⟨w.heap.size + 1, 0, none⟩ = some (.bool false) := cell_later hb (by simp [go_sem])
  have k1_1 : w1.cell? ⟨w.heap.size + 1, 1, none⟩ = some (.slice none 0 0) := cell_later hb (by simp [go_sem])
  have k1_2 : w1.cell? ⟨w.heap.size + 1, 2, none⟩ = some (.bool false) := cell_later hb (by simp [go_sem])
  have k1_3 : w1.cell? ⟨w.heap.size + 1, 3, none⟩ = some (.slice none 0 0) := cell_later hb (by simp [go_sem])
  have k1_4 : w1.cell? ⟨w.heap.size + 1, 4, none⟩ = some (.bool false) := cell_later hb (by simp [go_sem])
  have k1_5 : w1.cell? ⟨w.heap.size + 1, 5, none⟩ = some (.slice none 0 0) := cell_later hb (by simp [go_sem])
  have k1_6 : w1.cell? ⟨w.heap.size + 1, 6, none⟩ = some (.bool false) := cell_later hb (by simp [go_sem])
  have k1_7 : w1.cell? ⟨w.heap.size + 1, 7, none⟩ = some (.slice none 0 0) := cell_later hb (by simp [go_sem])
  have z1 : ∀ o, w1.frozen? ⟨w.heap.size + 1, o, none⟩ = false := fun o => frozen_later hb (by simp) (by simp [go_sem])
  have HB := hide (below_on (unhide B0) hb)
  clear hb
  go_upto_region 3 with fail
  have hb : Below w1.heap.size w1 (w1.alloc (.cells #[.bool false, .slice none 0 0, .bool false, .slice none 0 0, .bool false, .slice none 0 0, .bool false, .slice none 0 0] 41)) := ((Below.refl _ _).alloc (by simp) _)
  have k2_0 : (w1.alloc (.cells #[.bool false, .slice none 0 0, .bool false, .slice none 0 0, .bool false, .slice none 0 0, .bool false, .slice none 0 0] 41)).cell? ⟨w1.heap.size, 0, none⟩ = some (.bool false) := by simp [go_sem]
  have k2_1 : (w1.alloc (.cells #[.bool false, .slice none 0 0, .bool false, .slice none 0 0, .bool false, .slice none 0 0, .bool false, .slice none 0 0] 41)).cell? ⟨w1.heap.size, 1, none⟩ = some (.slice none 0 0) := by simp [go_sem]
  have k2_2 : (w1.alloc (.cells #[.bool false, .slice none 0 0, .bool false, .slice none 0 0, .bool false, .slice none 0 0, .bool false, .slice none 0 0] 41)).cell? ⟨w1.heap.size, 2, none⟩ = some (.bool false) := by simp [go_sem]
  have k2_3 : (w1.alloc (.cells #[.bool false, .slice none 0 0, .bool false, .slice none 0 0, .bool false, .slice none 0 0, .bool false, .slice none 0 0] 41)).cell? ⟨w1.heap.size, 3, none⟩ = some (.slice none 0 0) := by simp [go_sem]
  have k2_4 : (w1.alloc (.cells #[.bool false, .slice none 0 0, .bool false, .slice none 0 0, .bool false, .slice none 0 0, .bool false, .slice none 0 0] 41)).cell? ⟨w1.heap.size, 4, none⟩ = some (.bool false) := by simp [go_sem]
  have k2_5 : (w1.alloc (.cells #[.bool false, .slice none 0 0, .bool false, .slice none 0 0, .bool false, .slice none 0 0, .bool false, .slice none 0 0] 41)).cell? ⟨w1.heap.size, 5, none⟩ = some (.slice none 0 0) := by simp [go_sem]
  have k2_6 : (w1.alloc (.cells #[.bool false, .slice none 0 0, .bool false, .slice none 0 0, .bool false, .slice none 0 0, .bool false, .slice none 0 0] 41)).cell? ⟨w1.heap.size, 6, none⟩ = some (.bool false) := by simp [go_sem]
  have k2_7 : (w1.alloc (.cells #[.bool false, .slice none 0 0, .bool false, .slice none 0 0, .bool false, .slice none 0 0, .bool false, .slice none 0 0] 41)).cell? ⟨w1.heap.size, 7, none⟩ = some (.slice none 0 0) := by simp [go_sem]
  replace k1_0 : (w1.alloc (.cells #[.bool false, .slice none 0 0, .bool false, .slice none 0 0, .bool false, .slice none 0 0, .bool false, .slice none 0 0] 41)).cell? ⟨w.heap.size + 1, 0, none⟩ = some (.bool false) := (ca_other k1_0)
  replace k1_1 : (w1.alloc (.cells #[.bool false, .slice none 0 0, .bool false, .slice none 0 0, .bool false, .slice none 0 0, .bool false, .slice none 0 0] 41)).cell? ⟨w.heap.size + 1, 1, none⟩ = some (.slice none 0 0) := (ca_other k1_1)
  replace k1_2 : (w1.alloc (.cells #[.bool false, .slice none 0 0, .bool false, .slice none 0 0, .bool false, .slice none 0 0, .bool false, .slice none 0 0] 41)).cell? ⟨w.heap.size + 1, 2, none⟩ = some (.bool false) := (ca_other k1_2)
  replace k1_3 : (w1.alloc (.cells #[.bool false, .slice none 0 0, .bool false, .slice none 0 0, .bool false, .slice none 0 0, .bool false, .slice none 0 0] 41)).cell? ⟨w.heap.size + 1, 3, none⟩ = some (.slice none 0 0) := (ca_other k1_3)
  replace k1_4 : (w1.alloc (.cells #[.bool false, .slice none 0 0, .bool false, .slice none 0 0, .bool false, .slice none 0 0, .bool false, .slice none 0 0] 41)).cell? ⟨w.heap.size + 1, 4, none⟩ = some (.bool false) := (ca_other k1_4)
  replace k1_5 : (w1.alloc (.cells #[.bool false, .slice none 0 0, .bool false, .slice none 0 0, .bool false, .slice none 0 0, .bool false, .slice none 0 0] 41)).cell? ⟨w.heap.size + 1, 5, none⟩ = some (.slice none 0 0) := (ca_other k1_5)
  replace k1_6 : (w1.alloc (.cells #[.bool false, .slice none 0 0, .bool false, .slice none 0 0, .bool false, .slice none 0 0, .bool false, .slice none 0 0] 41)).cell? ⟨w.heap.size + 1, 6, none⟩ = some (.bool false) := (ca_other k1_6)
  replace k1_7 : (w1.alloc (.cells #[.bool false, .slice none 0 0, .bool false, .slice none 0 0, .bool false, .slice none 0 0, .bool false, .slice none 0 0] 41)).cell? ⟨w.heap.size + 1, 7, none⟩ = some (.slice none 0 0) := (ca_other k1_7)
  replace z1 : ∀ o, (w1.alloc (.cells #[.bool false, .slice none 0 0, .bool false, .slice none 0 0, .bool false, .slice none 0 0, .bool false, .slice none 0 0] 41)).frozen? ⟨w.heap.size + 1, o, none⟩ = false := fun o => frozen_later hb (by omega) (z1 o)
  replace HB := hide (below_on (unhide HB) hb)
  have szw2 := hb.size
  clear hb
  generalize (w1.alloc (.cells #[.bool false, .slice none 0 0, .bool false, .slice none 0 0, .bool false, .slice none 0 0, .bool false, .slice none 0 0] 41)) = w2 at *
  go_wp2
  refine bodyPost_ret (v := .tuple #[.agg #[.bool false, .slice none 0 0, .bool false, .slice none 0 0, .bool false, .slice none 0 0, .bool false, .slice none 0 0], .bool false]) (by simp [results, Try.results162, go_sem, k1_0, k1_1, k1_2, k1_3, k1_4, k1_5, k1_6, k1_7]) rfl ?_
  have bt := metS_but (w5 := w2) (v := (⟨⟨⟨false, none, 0, 0⟩, ⟨false, none, 0, 0⟩⟩, ⟨⟨false, none, 0, 0⟩, ⟨false, none, 0, 0⟩⟩⟩ : SV)) (G := w.heap.size + 1)
  exact ⟨(⟨⟨⟨false, none, 0, 0⟩, ⟨false, none, 0, 0⟩⟩, ⟨⟨false, none, 0, 0⟩, ⟨false, none, 0, 0⟩⟩⟩ : SV), (⟨⟨⟨false, []⟩, ⟨false, []⟩⟩, ⟨⟨false, []⟩, ⟨false, []⟩⟩⟩ : SD), false, rfl, bt.below (unhide HB) (by omega) (unhide HB).size, zeroS _ _ _, rfl, rfl⟩

theorem whereS (v : SV) (N D N' D' : Int) (xs us ys vs : List Int) (lo hi : Nat) (w : World) (ho : AllOwn lo hi w [(v.lo.num, ⟨decide (N < 0), xs⟩), (v.lo.den, ⟨decide (D < 0), us⟩), (v.hi.num, ⟨decide (N' < 0), ys⟩), (v.hi.den, ⟨decide (D' < 0), vs⟩)]) (hh : hi ≤ w.heap.size) (m1 : v.lo.den.n ≤ maxLen) (m2 : v.hi.den.n ≤ maxLen) (n1 : Nm xs N.natAbs) (n2 : Nm us D.natAbs) (n3 : Nm ys N'.natAbs) (n4 : Nm vs D'.natAbs) (hD : D ≠ 0) (hD' : D' ≠ 0) :
    Calls Try.prog 162 #[.agg #[.bool v.lo.num.g, .slice v.lo.num.a v.lo.num.n v.lo.num.c, .bool v.lo.den.g, .slice v.lo.den.a v.lo.den.n v.lo.den.c, .bool v.hi.num.g, .slice v.hi.num.a v.hi.num.n v.hi.num.c, .bool v.hi.den.g, .slice v.hi.den.a v.hi.den.n v.hi.den.c], .func (Fn.func 163) #[] #[]] w (RetSin lo hi w (AnsS true N D N' D')) := by
  have e1 : xs.length = v.lo.num.n := (ho.own (v.lo.num, ⟨decide (N < 0), xs⟩) (by simp)).len
  have e2 : us.length = v.lo.den.n := (ho.own (v.lo.den, ⟨decide (D < 0), us⟩) (by simp)).len
  have e3 : ys.length = v.hi.num.n := (ho.own (v.hi.num, ⟨decide (N' < 0), ys⟩) (by simp)).len
  have e4 : vs.length = v.hi.den.n := (ho.own (v.hi.den, ⟨decide (D' < 0), vs⟩) (by simp)).len
  have z1 : v.lo.den.n ≠ 0 := fun e => by have := n2.nil_iff.1 (List.length_eq_zero_iff.1 (e2.trans e)); omega
  have z2 : v.hi.den.n ≠ 0 := fun e => by have := n4.nil_iff.1 (List.length_eq_zero_iff.1 (e4.trans e)); omega
  by_cases hf : (v.lo.num.n ≤ 40 ∧ v.lo.den.n ≤ 40) ∧ (v.hi.num.n ≤ 40 ∧ v.hi.den.n ≤ 40)
  · refine (whereS_yes v ⟨⟨⟨decide (N < 0), xs⟩, ⟨decide (D < 0), us⟩⟩, ⟨⟨decide (N' < 0), ys⟩, ⟨decide (D' < 0), vs⟩⟩⟩ lo hi w ho hh m1 m2 (decide_eq_true ⟨⟨z1, hf.1⟩, ⟨z2, hf.2⟩⟩)).mono ?_
    rintro e w' ⟨u, d, ok, rfl, hb, hv, rfl, rfl⟩
    exact ⟨u, _, _, rfl, hb, hv, .inl ⟨rfl, xs, us, ys, vs, n1, n2, n3, n4, .inl ⟨by omega, by omega, rfl, rfl⟩⟩⟩
  · refine (whereS_no v lo hi w m1 m2 (decide_eq_false (fun h => hf ⟨h.1.2, h.2.2⟩))).mono ?_
    rintro e w' ⟨u, d, ok, rfl, hb, hv, rfl, rfl⟩
    exact ⟨u, _, _, rfl, hb, hv, .inl ⟨rfl, xs, us, ys, vs, n1, n2, n3, n4, .inr ⟨by rw [e1, e2, e3, e4]; exact hf, rfl, rfl⟩⟩⟩

end Go.Proofs.Ytlmeokeanihhoaa
namespace Go.Proofs.Ytlmeokeanihhoaa
open Go.RowKit
set_option linter.unusedVariables false
set_option maxRecDepth 100000
set_option linter.unusedSimpArgs false

/-- The box of the span so far. -/
structure Ls3 (w wr : World) (G : Nat) (q1 q2 : QV) : Prop where
  a0 : wr.cell? ⟨G, 0, none⟩ = some (.bool q1.num.g)
  a1 : wr.cell? ⟨G, 1, none⟩ = some (.slice q1.num.a q1.num.n q1.num.c)
  a2 : wr.cell? ⟨G, 2, none⟩ = some (.bool q1.den.g)
  a3 : wr.cell? ⟨G, 3, none⟩ = some (.slice q1.den.a q1.den.n q1.den.c)
  b0 : wr.cell? ⟨G, 4, none⟩ = some (.bool q2.num.g)
  b1 : wr.cell? ⟨G, 5, none⟩ = some (.slice q2.num.a q2.num.n q2.num.c)
  b2 : wr.cell? ⟨G, 6, none⟩ = some (.bool q2.den.g)
  b3 : wr.cell? ⟨G, 7, none⟩ = some (.slice q2.den.a q2.den.n q2.den.c)
  f1 : ∀ o, wr.frozen? ⟨G, o, none⟩ = false
  r0 : wr.cell? ⟨w.heap.size, 0, none⟩ = some (.bool false)
  r1 : wr.cell? ⟨w.heap.size, 1, none⟩ = some (.slice none 0 0)
  r2 : wr.cell? ⟨w.heap.size, 2, none⟩ = some (.bool false)
  r3 : wr.cell? ⟨w.heap.size, 3, none⟩ = some (.slice none 0 0)
  r4 : wr.cell? ⟨w.heap.size, 4, none⟩ = some (.bool false)
  r5 : wr.cell? ⟨w.heap.size, 5, none⟩ = some (.slice none 0 0)
  r6 : wr.cell? ⟨w.heap.size, 6, none⟩ = some (.bool false)
  r7 : wr.cell? ⟨w.heap.size, 7, none⟩ = some (.slice none 0 0)
  fr : ∀ o, wr.frozen? ⟨w.heap.size, o, none⟩ = false
  bel : Below w.heap.size w wr
theorem Ls3.later {w wr wy : World} {G : Nat} {q1 q2 : QV} (h : Ls3 w wr G q1 q2) (hb : Below wr.heap.size wr wy) : Ls3 w wy G q1 q2 :=
  ⟨cell_later hb h.a0, cell_later hb h.a1, cell_later hb h.a2, cell_later hb h.a3, cell_later hb h.b0, cell_later hb h.b1, cell_later hb h.b2, cell_later hb h.b3, fun o => frozen_later hb (World.block_lt_of_cell? _ _ h.a0) (h.f1 o), cell_later hb h.r0, cell_later hb h.r1, cell_later hb h.r2, cell_later hb h.r3, cell_later hb h.r4, cell_later hb h.r5, cell_later hb h.r6, cell_later hb h.r7, fun o => frozen_later hb (World.block_lt_of_cell? _ _ h.r0) (h.fr o), below_on h.bel hb⟩
theorem Ls3.set1 {w wr : World} {G : Nat} {q1 q2 q : QV} (h : Ls3 w wr G q1 q2) (g1 : w.heap.size < G) : Ls3 w ((((wr.setCell ⟨G, 0, none⟩ (.bool q.num.g)).setCell ⟨G, 1, none⟩ (.slice q.num.a q.num.n q.num.c)).setCell ⟨G, 2, none⟩ (.bool q.den.g)).setCell ⟨G, 3, none⟩ (.slice q.den.a q.den.n q.den.c)) G q q2 :=
  ⟨by simp [go_sem, h.a0, h.a1, h.a2, h.a3, h.b0, h.b1, h.b2, h.b3], by simp [go_sem, h.a0, h.a1, h.a2, h.a3, h.b0, h.b1, h.b2, h.b3], by simp [go_sem, h.a0, h.a1, h.a2, h.a3, h.b0, h.b1, h.b2, h.b3], by simp [go_sem, h.a0, h.a1, h.a2, h.a3, h.b0, h.b1, h.b2, h.b3], by simp [go_sem, h.a0, h.a1, h.a2, h.a3, h.b0, h.b1, h.b2, h.b3], by simp [go_sem, h.a0, h.a1, h.a2, h.a3, h.b0, h.b1, h.b2, h.b3], by simp [go_sem, h.a0, h.a1, h.a2, h.a3, h.b0, h.b1, h.b2, h.b3], by simp [go_sem, h.a0, h.a1, h.a2, h.a3, h.b0, h.b1, h.b2, h.b3], fun o => by simp [go_sem, h.f1 o], cs_other (cs_other (cs_other (cs_other h.r0 (by omega)) (by omega)) (by omega)) (by omega), cs_other (cs_other (cs_other (cs_other h.r1 (by omega)) (by omega)) (by omega)) (by omega), cs_other (cs_other (cs_other (cs_other h.r2 (by omega)) (by omega)) (by omega)) (by omega), cs_other (cs_other (cs_other (cs_other h.r3 (by omega)) (by omega)) (by omega)) (by omega), cs_other (cs_other (cs_other (cs_other h.r4 (by omega)) (by omega)) (by omega)) (by omega), cs_other (cs_other (cs_other (cs_other h.r5 (by omega)) (by omega)) (by omega)) (by omega), cs_other (cs_other (cs_other (cs_other h.r6 (by omega)) (by omega)) (by omega)) (by omega), cs_other (cs_other (cs_other (cs_other h.r7 (by omega)) (by omega)) (by omega)) (by omega), fun o => by simp [go_sem, h.fr o], ((((h.bel.setCell (by show w.heap.size ≤ G; omega) _).setCell (by show w.heap.size ≤ G; omega) _).setCell (by show w.heap.size ≤ G; omega) _).setCell (by show w.heap.size ≤ G; omega) _)⟩
theorem Ls3.set2 {w wr : World} {G : Nat} {q1 q2 q : QV} (h : Ls3 w wr G q1 q2) (g1 : w.heap.size < G) : Ls3 w ((((wr.setCell ⟨G, 4, none⟩ (.bool q.num.g)).setCell ⟨G, 5, none⟩ (.slice q.num.a q.num.n q.num.c)).setCell ⟨G, 6, none⟩ (.bool q.den.g)).setCell ⟨G, 7, none⟩ (.slice q.den.a q.den.n q.den.c)) G q1 q :=
  ⟨by simp [go_sem, h.a0, h.a1, h.a2, h.a3, h.b0, h.b1, h.b2, h.b3], by simp [go_sem, h.a0, h.a1, h.a2, h.a3, h.b0, h.b1, h.b2, h.b3], by simp [go_sem, h.a0, h.a1, h.a2, h.a3, h.b0, h.b1, h.b2, h.b3], by simp [go_sem, h.a0, h.a1, h.a2, h.a3, h.b0, h.b1, h.b2, h.b3], by simp [go_sem, h.a0, h.a1, h.a2, h.a3, h.b0, h.b1, h.b2, h.b3], by simp [go_sem, h.a0, h.a1, h.a2, h.a3, h.b0, h.b1, h.b2, h.b3], by simp [go_sem, h.a0, h.a1, h.a2, h.a3, h.b0, h.b1, h.b2, h.b3], by simp [go_sem, h.a0, h.a1, h.a2, h.a3, h.b0, h.b1, h.b2, h.b3], fun o => by simp [go_sem, h.f1 o], cs_other (cs_other (cs_other (cs_other h.r0 (by omega)) (by omega)) (by omega)) (by omega), cs_other (cs_other (cs_other (cs_other h.r1 (by omega)) (by omega)) (by omega)) (by omega), cs_other (cs_other (cs_other (cs_other h.r2 (by omega)) (by omega)) (by omega)) (by omega), cs_other (cs_other (cs_other (cs_other h.r3 (by omega)) (by omega)) (by omega)) (by omega), cs_other (cs_other (cs_other (cs_other h.r4 (by omega)) (by omega)) (by omega)) (by omega), cs_other (cs_other (cs_other (cs_other h.r5 (by omega)) (by omega)) (by omega)) (by omega), cs_other (cs_other (cs_other (cs_other h.r6 (by omega)) (by omega)) (by omega)) (by omega), cs_other (cs_other (cs_other (cs_other h.r7 (by omega)) (by omega)) (by omega)) (by omega), fun o => by simp [go_sem, h.fr o], ((((h.bel.setCell (by show w.heap.size ≤ G; omega) _).setCell (by show w.heap.size ≤ G; omega) _).setCell (by show w.heap.size ≤ G; omega) _).setCell (by show w.heap.size ≤ G; omega) _)⟩

end Go.Proofs.Ytlmeokeanihhoaa
namespace Go.Proofs.Ytlmeokeanihhoaa
open Go.RowKit
set_option linter.unusedVariables false
set_option maxRecDepth 100000
set_option linter.unusedSimpArgs false

theorem low_cross2 {N D : Int} (h : D ≠ 0) : lowN N D * D = N * lowD N D := by
  by_cases hD : 0 < D
  · exact low_cross hD
  · have hD : D < 0 := by omega
    have hg := gcd_pos_right (N := N) h
    have d1 : ((Nat.gcd N.natAbs D.natAbs : Nat) : Int) ∣ (N.natAbs : Int) := by exact_mod_cast Nat.gcd_dvd_left _ _
    have d2 : ((Nat.gcd N.natAbs D.natAbs : Nat) : Int) ∣ (D.natAbs : Int) := by exact_mod_cast Nat.gcd_dvd_right _ _
    have m1 := Int.ediv_mul_cancel d1
    have m2 := Int.ediv_mul_cancel d2
    unfold lowN lowD lowU sU
    generalize (N.natAbs : Int) / ((Nat.gcd N.natAbs D.natAbs : Nat) : Int) = a at *
    generalize (D.natAbs : Int) / ((Nat.gcd N.natAbs D.natAbs : Nat) : Int) = b at *
    generalize ((Nat.gcd N.natAbs D.natAbs : Nat) : Int) = g at *
    rw [decide_eq_true hD]
    have hD : D = -(b * g) := by omega
    by_cases c : N < 0
    · have hN : N = -(a * g) := by omega
      rw [decide_eq_true c, if_neg (by simp), hN, hD]
      simp only [Int.neg_mul, Int.mul_neg, Int.mul_comm, Int.mul_left_comm]
    · have hN : N = a * g := by omega
      rw [decide_eq_false c, if_pos (by rfl), hN, hD]
      simp only [Int.neg_mul, Int.mul_neg, Int.neg_neg, Int.mul_comm, Int.mul_left_comm]
theorem least_two' {x y : RQ} (hx : Low x.N x.D) (hy : Low y.N y.D) (h : y.N * x.D ≤ x.N * y.D) : ((stLo x y).N = y.N ∧ (stLo x y).D = y.D) ∧ ((stHi x y).N = x.N ∧ (stHi x y).D = x.D) := by
  unfold stLo stHi
  rw [if_neg (show ¬ x.N * y.D < y.N * x.D by omega)]
  refine ⟨?_, ⟨rfl, rfl⟩⟩
  by_cases c : y.N * x.D < x.N * y.D
  · rw [if_pos c]; exact ⟨rfl, rfl⟩
  · rw [if_neg c]; exact hx.same hy (by omega)
/-- 1 divided by the ends, in their order. -/
theorem inv_le {n m a b : Int} (ha : 0 < a) (hb : 0 < b) (h : n * b ≤ m * a) (hs : 0 < n * m) : lowN (1 * b) (1 * m) * lowD (1 * a) (1 * n) ≤ lowN (1 * a) (1 * n) * lowD (1 * b) (1 * m) := by
  rw [Int.one_mul, Int.one_mul, Int.one_mul, Int.one_mul]
  have hn : n ≠ 0 := fun e => by rw [e, Int.zero_mul] at hs; omega
  have hm : m ≠ 0 := fun e => by rw [e, Int.mul_zero] at hs; omega
  have c1 := low_cross2 (N := a) hn
  have c2 := low_cross2 (N := b) hm
  have p1 := lowD_pos (N := a) hn
  have p2 := lowD_pos (N := b) hm
  generalize lowN a n = n1 at *
  generalize lowN b m = n2 at *
  generalize lowD a n = d1 at *
  generalize lowD b m = d2 at *
  refine Int.le_of_mul_le_mul_right (a := n * m) ?_ hs
  have e1 : n2 * d1 * (n * m) = (n * b) * (d1 * d2) := by
    have : n2 * d1 * (n * m) = (n2 * m) * (d1 * n) := by simp only [Int.mul_comm, Int.mul_left_comm, Int.mul_assoc]
    rw [this, c2]; simp only [Int.mul_comm, Int.mul_left_comm, Int.mul_assoc]
  have e2 : n1 * d2 * (n * m) = (m * a) * (d1 * d2) := by
    have : n1 * d2 * (n * m) = (n1 * n) * (d2 * m) := by simp only [Int.mul_comm, Int.mul_left_comm, Int.mul_assoc]
    rw [this, c1]; simp only [Int.mul_comm, Int.mul_left_comm, Int.mul_assoc]
  rw [e1, e2]
  exact Int.mul_le_mul_of_nonneg_right h (Int.le_of_lt (Int.mul_pos p1 p2))
theorem inv_signs {n m a b : Int} (ha : 0 < a) (hb : 0 < b) (h : n * b ≤ m * a) (hs : ¬ (n ≤ 0 ∧ 0 ≤ m)) : 0 < n * m := by
  by_cases c : 0 < n
  · have h1 := Int.mul_pos c hb
    have h2 : 0 < m := by
      rcases Int.lt_or_le 0 m with h3 | h3
      · exact h3
      · have := Int.mul_le_mul_of_nonneg_right h3 (Int.le_of_lt ha); omega
    exact Int.mul_pos c h2
  · have h2 : m < 0 := by omega
    have h3 := Int.mul_neg_of_neg_of_pos h2 ha
    have h4 : n < 0 := by
      rcases Int.lt_or_le n 0 with h3 | h3
      · exact h3
      · have := Int.mul_le_mul_of_nonneg_right h3 (Int.le_of_lt hb); omega
    exact Int.mul_pos_of_neg_of_neg h4 h2
theorem invBd {w : World} {q : QV} {d : QD} (h : IsGood w q d) : Bd (lowN (1 * dQ d) (1 * nQ d)) 200000 ∧ Bd (lowD (1 * dQ d) (1 * nQ d)) 200000 := by
  rw [Int.one_mul, Int.one_mul]
  exact ⟨lowN_bd (h.kd.mono (by omega)), lowD_bd (h.kn.mono (by omega))⟩
theorem one_bd : Bd 1 100000 := (show Bd 1 1 from ⟨by decide⟩).mono (by omega)

set_option maxHeartbeats 8000000 in
theorem invSpan_v (v : SV) (d : SD) (w : World) (j1 : IsGoodS w v d) (hs : 0 < nQ d.lo * nQ d.hi) :
    Calls Try.prog 109 #[.agg #[.bool v.lo.num.g, .slice v.lo.num.a v.lo.num.n v.lo.num.c, .bool v.lo.den.g, .slice v.lo.den.a v.lo.den.n v.lo.den.c, .bool v.hi.num.g, .slice v.hi.num.a v.hi.num.n v.hi.num.c, .bool v.hi.den.g, .slice v.hi.den.a v.hi.den.n v.hi.den.c]] w (OutS w (lowN (1 * dQ d.hi) (1 * nQ d.hi)) (lowD (1 * dQ d.hi) (1 * nQ d.hi)) (lowN (1 * dQ d.lo) (1 * nQ d.lo)) (lowD (1 * dQ d.lo) (1 * nQ d.lo))) := by
  have HS := hide hs
  have LE := hide (inv_le j1.lo.pos j1.hi.pos j1.le hs)
  have NZ : Hid (1 * nQ d.lo ≠ 0 ∧ 1 * nQ d.hi ≠ 0) := hide (by rw [Int.one_mul, Int.one_mul]; exact ⟨fun e => by rw [e, Int.zero_mul] at hs; omega, fun e => by rw [e, Int.mul_zero] at hs; omega⟩)
  have J1 := hide j1
  clear j1 hs
  have B0 := hide (show Below w.heap.size w ((w.alloc (.cells #[.bool v.lo.num.g, .slice v.lo.num.a v.lo.num.n v.lo.num.c, .bool v.lo.den.g, .slice v.lo.den.a v.lo.den.n v.lo.den.c, .bool v.hi.num.g, .slice v.hi.num.a v.hi.num.n v.hi.num.c, .bool v.hi.den.g, .slice v.hi.den.a v.hi.den.n v.hi.den.c] 41)).alloc (.cells #[.bool false, .slice none 0 0, .bool false, .slice none 0 0, .bool false, .slice none 0 0, .bool false, .slice none 0 0] 41)) from (((Below.refl _ _).alloc (by simp) _).alloc (by simp) _))
  go_enter Try.func109, Try.ntmps109
  go_wp2_with fail
  refine (wholeI 1 _ (by omega) (by omega)).mono ?_
  rintro e w1 ⟨qo, lo1, lo2, rfl, hb, oo, ao, m1, m2⟩
  have s1 : w.heap.size + 1 < w1.heap.size := by have := hb.size; simp at this; omega
  have k0_0 : w1.cell? ⟨w.heap.size, 0, none⟩ = some (.bool v.lo.num.g) := cell_later hb (by simp [go_sem])
  have k0_1 : w1.cell? ⟨w.heap.size, 1, none⟩ = some (.slice v.lo.num.a v.lo.num.n v.lo.num.c) := cell_later hb (by simp [go_sem])
  have k0_2 : w1.cell? ⟨w.heap.size, 2, none⟩ = some (.bool v.lo.den.g) := cell_later hb (by simp [go_sem])
  have k0_3 : w1.cell? ⟨w.heap.size, 3, none⟩ = some (.slice v.lo.den.a v.lo.den.n v.lo.den.c) := cell_later hb (by simp [go_sem])
  have k0_4 : w1.cell? ⟨w.heap.size, 4, none⟩ = some (.bool v.hi.num.g) := cell_later hb (by simp [go_sem])
  have k0_5 : w1.cell? ⟨w.heap.size, 5, none⟩ = some (.slice v.hi.num.a v.hi.num.n v.hi.num.c) := cell_later hb (by simp [go_sem])
  have k0_6 : w1.cell? ⟨w.heap.size, 6, none⟩ = some (.bool v.hi.den.g) := cell_later hb (by simp [go_sem])
  have k0_7 : w1.cell? ⟨w.heap.size, 7, none⟩ = some (.slice v.hi.den.a v.hi.den.n v.hi.den.c) := cell_later hb (by simp [go_sem])
  have k1_0 : w1.cell? ⟨w.heap.size + 1, 0, none⟩ = some (.bool false) := cell_later hb (by simp [go_sem])
  have k1_1 : w1.cell? ⟨w.heap.size + 1, 1, none⟩ = some (.slice none 0 0) := cell_later hb (by simp [go_sem])
  have k1_2 : w1.cell? ⟨w.heap.size + 1, 2, none⟩ = some (.bool false) := cell_later hb (by simp [go_sem])
  have k1_3 : w1.cell? ⟨w.heap.size + 1, 3, none⟩ = some (.slice none 0 0) := cell_later hb (by simp [go_sem])
  have k1_4 : w1.cell? ⟨w.heap.size + 1, 4, none⟩ = some (.bool false) := cell_later hb (by simp [go_sem])
  have k1_5 : w1.cell? ⟨w.heap.size + 1, 5, none⟩ = some (.slice none 0 0) := cell_later hb (by simp [go_sem])
  have k1_6 : w1.cell? ⟨w.heap.size + 1, 6, none⟩ = some (.bool false) := cell_later hb (by simp [go_sem])
  have k1_7 : w1.cell? ⟨w.heap.size + 1, 7, none⟩ = some (.slice none 0 0) := cell_later hb (by simp [go_sem])
  have z1 : ∀ o, w1.frozen? ⟨w.heap.size + 1, o, none⟩ = false := fun o => frozen_later hb (by simp) (by simp [go_sem])
  have OQ := hide (isQ_of ao m1 m2)
  have HB := hide (below_on (unhide B0) hb)
  clear hb
  clear oo ao m1 m2
  have S1 := hide ((unhide J1).later (unhide HB))
  go_upto_region 2 with fail
  have hb : Below w1.heap.size w1 (w1.alloc (.cells #[.bool qo.num.g, .slice qo.num.a qo.num.n qo.num.c, .bool qo.den.g, .slice qo.den.a qo.den.n qo.den.c] 30)) := ((Below.refl _ _).alloc (by simp) _)
  replace k0_0 : (w1.alloc (.cells #[.bool qo.num.g, .slice qo.num.a qo.num.n qo.num.c, .bool qo.den.g, .slice qo.den.a qo.den.n qo.den.c] 30)).cell? ⟨w.heap.size, 0, none⟩ = some (.bool v.lo.num.g) := (ca_other k0_0)
  replace k0_1 : (w1.alloc (.cells #[.bool qo.num.g, .slice qo.num.a qo.num.n qo.num.c, .bool qo.den.g, .slice qo.den.a qo.den.n qo.den.c] 30)).cell? ⟨w.heap.size, 1, none⟩ = some (.slice v.lo.num.a v.lo.num.n v.lo.num.c) := (ca_other k0_1)
  replace k0_2 : (w1.alloc (.cells #[.bool qo.num.g, .slice qo.num.a qo.num.n qo.num.c, .bool qo.den.g, .slice qo.den.a qo.den.n qo.den.c] 30)).cell? ⟨w.heap.size, 2, none⟩ = some (.bool v.lo.den.g) := (ca_other k0_2)
  replace k0_3 : (w1.alloc (.cells #[.bool qo.num.g, .slice qo.num.a qo.num.n qo.num.c, .bool qo.den.g, .slice qo.den.a qo.den.n qo.den.c] 30)).cell? ⟨w.heap.size, 3, none⟩ = some (.slice v.lo.den.a v.lo.den.n v.lo.den.c) := (ca_other k0_3)
  replace k0_4 : (w1.alloc (.cells #[.bool qo.num.g, .slice qo.num.a qo.num.n qo.num.c, .bool qo.den.g, .slice qo.den.a qo.den.n qo.den.c] 30)).cell? ⟨w.heap.size, 4, none⟩ = some (.bool v.hi.num.g) := (ca_other k0_4)
  replace k0_5 : (w1.alloc (.cells #[.bool qo.num.g, .slice qo.num.a qo.num.n qo.num.c, .bool qo.den.g, .slice qo.den.a qo.den.n qo.den.c] 30)).cell? ⟨w.heap.size, 5, none⟩ = some (.slice v.hi.num.a v.hi.num.n v.hi.num.c) := (ca_other k0_5)
  replace k0_6 : (w1.alloc (.cells #[.bool qo.num.g, .slice qo.num.a qo.num.n qo.num.c, .bool qo.den.g, .slice qo.den.a qo.den.n qo.den.c] 30)).cell? ⟨w.heap.size, 6, none⟩ = some (.bool v.hi.den.g) := (ca_other k0_6)
  replace k0_7 : (w1.alloc (.cells #[.bool qo.num.g, .slice qo.num.a qo.num.n qo.num.c, .bool qo.den.g, .slice qo.den.a qo.den.n qo.den.c] 30)).cell? ⟨w.heap.size, 7, none⟩ = some (.slice v.hi.den.a v.hi.den.n v.hi.den.c) := (ca_other k0_7)
  replace k1_0 : (w1.alloc (.cells #[.bool qo.num.g, .slice qo.num.a qo.num.n qo.num.c, .bool qo.den.g, .slice qo.den.a qo.den.n qo.den.c] 30)).cell? ⟨w.heap.size + 1, 0, none⟩ = some (.bool false) := (ca_other k1_0)
  replace k1_1 : (w1.alloc (.cells #[.bool qo.num.g, .slice qo.num.a qo.num.n qo.num.c, .bool qo.den.g, .slice qo.den.a qo.den.n qo.den.c] 30)).cell? ⟨w.heap.size + 1, 1, none⟩ = some (.slice none 0 0) := (ca_other k1_1)
  replace k1_2 : (w1.alloc (.cells #[.bool qo.num.g, .slice qo.num.a qo.num.n qo.num.c, .bool qo.den.g, .slice qo.den.a qo.den.n qo.den.c] 30)).cell? ⟨w.heap.size + 1, 2, none⟩ = some (.bool false) := (ca_other k1_2)
  replace k1_3 : (w1.alloc (.cells #[.bool qo.num.g, .slice qo.num.a qo.num.n qo.num.c, .bool qo.den.g, .slice qo.den.a qo.den.n qo.den.c] 30)).cell? ⟨w.heap.size + 1, 3, none⟩ = some (.slice none 0 0) := (ca_other k1_3)
  replace k1_4 : (w1.alloc (.cells #[.bool qo.num.g, .slice qo.num.a qo.num.n qo.num.c, .bool qo.den.g, .slice qo.den.a qo.den.n qo.den.c] 30)).cell? ⟨w.heap.size + 1, 4, none⟩ = some (.bool false) := (ca_other k1_4)
  replace k1_5 : (w1.alloc (.cells #[.bool qo.num.g, .slice qo.num.a qo.num.n qo.num.c, .bool qo.den.g, .slice qo.den.a qo.den.n qo.den.c] 30)).cell? ⟨w.heap.size + 1, 5, none⟩ = some (.slice none 0 0) := (ca_other k1_5)
  replace k1_6 : (w1.alloc (.cells #[.bool qo.num.g, .slice qo.num.a qo.num.n qo.num.c, .bool qo.den.g, .slice qo.den.a qo.den.n qo.den.c] 30)).cell? ⟨w.heap.size + 1, 6, none⟩ = some (.bool false) := (ca_other k1_6)
  replace k1_7 : (w1.alloc (.cells #[.bool qo.num.g, .slice qo.num.a qo.num.n qo.num.c, .bool qo.den.g, .slice qo.den.a qo.den.n qo.den.c] 30)).cell? ⟨w.heap.size + 1, 7, none⟩ = some (.slice none 0 0) := (ca_other k1_7)
  have k2_0 : (w1.alloc (.cells #[.bool qo.num.g, .slice qo.num.a qo.num.n qo.num.c, .bool qo.den.g, .slice qo.den.a qo.den.n qo.den.c] 30)).cell? ⟨w1.heap.size, 0, none⟩ = some (.bool qo.num.g) := by simp [go_sem]
  have k2_1 : (w1.alloc (.cells #[.bool qo.num.g, .slice qo.num.a qo.num.n qo.num.c, .bool qo.den.g, .slice qo.den.a qo.den.n qo.den.c] 30)).cell? ⟨w1.heap.size, 1, none⟩ = some (.slice qo.num.a qo.num.n qo.num.c) := by simp [go_sem]
  have k2_2 : (w1.alloc (.cells #[.bool qo.num.g, .slice qo.num.a qo.num.n qo.num.c, .bool qo.den.g, .slice qo.den.a qo.den.n qo.den.c] 30)).cell? ⟨w1.heap.size, 2, none⟩ = some (.bool qo.den.g) := by simp [go_sem]
  have k2_3 : (w1.alloc (.cells #[.bool qo.num.g, .slice qo.num.a qo.num.n qo.num.c, .bool qo.den.g, .slice qo.den.a qo.den.n qo.den.c] 30)).cell? ⟨w1.heap.size, 3, none⟩ = some (.slice qo.den.a qo.den.n qo.den.c) := by simp [go_sem]
  replace z1 : ∀ o, (w1.alloc (.cells #[.bool qo.num.g, .slice qo.num.a qo.num.n qo.num.c, .bool qo.den.g, .slice qo.den.a qo.den.n qo.den.c] 30)).frozen? ⟨w.heap.size + 1, o, none⟩ = false := fun o => frozen_later hb (by omega) (z1 o)
  replace OQ := hide ((unhide OQ).later hb)
  replace S1 := hide ((unhide S1).later hb)
  replace HB := hide (below_on (unhide HB) hb)
  have szw0 := hb.size
  clear hb
  generalize (w1.alloc (.cells #[.bool qo.num.g, .slice qo.num.a qo.num.n qo.num.c, .bool qo.den.g, .slice qo.den.a qo.den.n qo.den.c] 30)) = w0 at *
  have ne0_1 : w.heap.size ≠ w.heap.size + 1 := by omega
  have ne2_1 : w1.heap.size ≠ w.heap.size + 1 := by omega
  go_region_held3 (fun w' => w'.cell? ⟨w1.heap.size, 0, none⟩ = some (.bool qo.num.g) ∧ w'.cell? ⟨w1.heap.size, 1, none⟩ = some (.slice qo.num.a qo.num.n qo.num.c) ∧ w'.cell? ⟨w1.heap.size, 2, none⟩ = some (.bool qo.den.g) ∧ w'.cell? ⟨w1.heap.size, 3, none⟩ = some (.slice qo.den.a qo.den.n qo.den.c) ∧ w'.cell? ⟨w.heap.size, 0, none⟩ = some (.bool v.lo.num.g) ∧ w'.cell? ⟨w.heap.size, 1, none⟩ = some (.slice v.lo.num.a v.lo.num.n v.lo.num.c) ∧ w'.cell? ⟨w.heap.size, 2, none⟩ = some (.bool v.lo.den.g) ∧ w'.cell? ⟨w.heap.size, 3, none⟩ = some (.slice v.lo.den.a v.lo.den.n v.lo.den.c) ∧ w'.cell? ⟨w.heap.size, 4, none⟩ = some (.bool v.hi.num.g) ∧ w'.cell? ⟨w.heap.size, 5, none⟩ = some (.slice v.hi.num.a v.hi.num.n v.hi.num.c) ∧ w'.cell? ⟨w.heap.size, 6, none⟩ = some (.bool v.hi.den.g) ∧ w'.cell? ⟨w.heap.size, 7, none⟩ = some (.slice v.hi.den.a v.hi.den.n v.hi.den.c)) (with_reducible (first | exact ⟨k2_0, k2_1, k2_2, k2_3, k0_0, k0_1, k0_2, k0_3, k0_4, k0_5, k0_6, k0_7⟩ | exact ⟨cd_other k2_0, cd_other k2_1, cd_other k2_2, cd_other k2_3, cd_other k0_0, cd_other k0_1, cd_other k0_2, cd_other k0_3, cd_other k0_4, cd_other k0_5, cd_other k0_6, cd_other k0_7⟩ | exact ⟨ca_other k2_0, ca_other k2_1, ca_other k2_2, ca_other k2_3, ca_other k0_0, ca_other k0_1, ca_other k0_2, ca_other k0_3, ca_other k0_4, ca_other k0_5, ca_other k0_6, ca_other k0_7⟩ | exact ⟨cs_other (cs_other (cs_other (cs_other (cs_other (cs_other (cs_other (cs_other (k2_0) ne2_1) ne2_1) ne2_1) ne2_1) ne2_1) ne2_1) ne2_1) ne2_1, cs_other (cs_other (cs_other (cs_other (cs_other (cs_other (cs_other (cs_other (k2_1) ne2_1) ne2_1) ne2_1) ne2_1) ne2_1) ne2_1) ne2_1) ne2_1, cs_other (cs_other (cs_other (cs_other (cs_other (cs_other (cs_other (cs_other (k2_2) ne2_1) ne2_1) ne2_1) ne2_1) ne2_1) ne2_1) ne2_1) ne2_1, cs_other (cs_other (cs_other (cs_other (cs_other (cs_other (cs_other (cs_other (k2_3) ne2_1) ne2_1) ne2_1) ne2_1) ne2_1) ne2_1) ne2_1) ne2_1, cs_other (cs_other (cs_other (cs_other (cs_other (cs_other (cs_other (cs_other (k0_0) ne0_1) ne0_1) ne0_1) ne0_1) ne0_1) ne0_1) ne0_1) ne0_1, cs_other (cs_other (cs_other (cs_other (cs_other (cs_other (cs_other (cs_other (k0_1) ne0_1) ne0_1) ne0_1) ne0_1) ne0_1) ne0_1) ne0_1) ne0_1, cs_other (cs_other (cs_other (cs_other (cs_other (cs_other (cs_other (cs_other (k0_2) ne0_1) ne0_1) ne0_1) ne0_1) ne0_1) ne0_1) ne0_1) ne0_1, cs_other (cs_other (cs_other (cs_other (cs_other (cs_other (cs_other (cs_other (k0_3) ne0_1) ne0_1) ne0_1) ne0_1) ne0_1) ne0_1) ne0_1) ne0_1, cs_other (cs_other (cs_other (cs_other (cs_other (cs_other (cs_other (cs_other (k0_4) ne0_1) ne0_1) ne0_1) ne0_1) ne0_1) ne0_1) ne0_1) ne0_1, cs_other (cs_other (cs_other (cs_other (cs_other (cs_other (cs_other (cs_other (k0_5) ne0_1) ne0_1) ne0_1) ne0_1) ne0_1) ne0_1) ne0_1) ne0_1, cs_other (cs_other (cs_other (cs_other (cs_other (cs_other (cs_other (cs_other (k0_6) ne0_1) ne0_1) ne0_1) ne0_1) ne0_1) ne0_1) ne0_1) ne0_1, cs_other (cs_other (cs_other (cs_other (cs_other (cs_other (cs_other (cs_other (k0_7) ne0_1) ne0_1) ne0_1) ne0_1) ne0_1) ne0_1) ne0_1) ne0_1⟩ | fail))
    (first
    | (have chk := Px2; clear chk; go_at_call 164; refine (leastI ⟨x1, lowN (1 * dQ d.lo) (1 * nQ d.lo), lowD (1 * dQ d.lo) (1 * nQ d.lo)⟩ w2b.heap.size 0 1 1 [⟨x2, lowN (1 * dQ d.hi) (1 * nQ d.hi), lowD (1 * dQ d.hi) (1 * nQ d.hi)⟩] _ ?_ ?_ rfl (by omega)).mono ?_; (exact ⟨(unhide Px1).later ((Below.refl _ _).alloc (Nat.le_refl _) _), (invBd (unhide J1).lo).1, (invBd (unhide J1).lo).2⟩); (exact rats_one (r := ⟨x2, lowN (1 * dQ d.hi) (1 * nQ d.hi), lowD (1 * dQ d.hi) (1 * nQ d.hi)⟩) ⟨unhide Px2, (invBd (unhide J1).hi).1, (invBd (unhide J1).hi).2⟩); rintro e w3 ⟨r, xs, us, ys, vs, rfl, hb0, or, ar, n1, n2, n3, n4⟩; have hb := ba hb0; have szl := hb0.size; (try simp at szl); have hbx : Below w2b.heap.size w2b w3 := hb; have szw3 := hbx.size; replace z1 := fun o => frozen_later hbx (World.block_lt_of_cell? _ _ k1_0) (z1 o); replace k0_0 := cell_later hbx k0_0; replace k0_1 := cell_later hbx k0_1; replace k0_2 := cell_later hbx k0_2; replace k0_3 := cell_later hbx k0_3; replace k0_4 := cell_later hbx k0_4; replace k0_5 := cell_later hbx k0_5; replace k0_6 := cell_later hbx k0_6; replace k0_7 := cell_later hbx k0_7; replace k1_0 := cell_later hbx k1_0; replace k1_1 := cell_later hbx k1_1; replace k1_2 := cell_later hbx k1_2; replace k1_3 := cell_later hbx k1_3; replace k1_4 := cell_later hbx k1_4; replace k1_5 := cell_later hbx k1_5; replace k1_6 := cell_later hbx k1_6; replace k1_7 := cell_later hbx k1_7; replace k2_0 := cell_later hbx k2_0; replace k2_1 := cell_later hbx k2_1; replace k2_2 := cell_later hbx k2_2; replace k2_3 := cell_later hbx k2_3; replace OQ := hide ((unhide OQ).later hbx); replace S1 := hide ((unhide S1).later hbx); replace Px1 := hide ((unhide Px1).later hbx); replace Px2 := hide ((unhide Px2).later hbx); have OR := hide (And.intro or (And.intro ar (And.intro n1 (And.intro n2 (And.intro n3 n4))))); have HBr := hide (below_on (unhide HBr) hbx); clear hbx hb or ar n1 n2 n3 n4 hb0)
    | (have chk := Px1; clear chk; go_at_call 91; refine (divQI qo v.hi 1 1 _ _ _ ?_ ?_ (unhide NZ).2 one_bd one_bd ((unhide J1).hi.kn.mono (by omega)) ((unhide J1).hi.kd.mono (by omega))).mono ?_; exact (unhide OQ).later (Below.refl _ _); exact (unhide S1).hi.is.later (Below.refl _ _); rintro e w2b ⟨x2, lx2, mx2, rfl, hb, o2, a2, n2, k2⟩; have hbx : Below w1b.heap.size w1b w2b := hb; have szw2b := hbx.size; replace z1 := fun o => frozen_later hbx (World.block_lt_of_cell? _ _ k1_0) (z1 o); replace k0_0 := cell_later hbx k0_0; replace k0_1 := cell_later hbx k0_1; replace k0_2 := cell_later hbx k0_2; replace k0_3 := cell_later hbx k0_3; replace k0_4 := cell_later hbx k0_4; replace k0_5 := cell_later hbx k0_5; replace k0_6 := cell_later hbx k0_6; replace k0_7 := cell_later hbx k0_7; replace k1_0 := cell_later hbx k1_0; replace k1_1 := cell_later hbx k1_1; replace k1_2 := cell_later hbx k1_2; replace k1_3 := cell_later hbx k1_3; replace k1_4 := cell_later hbx k1_4; replace k1_5 := cell_later hbx k1_5; replace k1_6 := cell_later hbx k1_6; replace k1_7 := cell_later hbx k1_7; replace k2_0 := cell_later hbx k2_0; replace k2_1 := cell_later hbx k2_1; replace k2_2 := cell_later hbx k2_2; replace k2_3 := cell_later hbx k2_3; replace OQ := hide ((unhide OQ).later hbx); replace S1 := hide ((unhide S1).later hbx); replace Px1 := hide ((unhide Px1).later hbx); have Px2 := hide (isQ_of a2 n2 k2); have HBr := hide (below_on (unhide HBr) hbx); clear hbx hb o2 a2 n2 k2)
    | (go_at_call 91; refine (divQI qo v.lo 1 1 _ _ _ ?_ ?_ (unhide NZ).1 one_bd one_bd ((unhide J1).lo.kn.mono (by omega)) ((unhide J1).lo.kd.mono (by omega))).mono ?_; exact (unhide OQ).later (Below.refl _ _).drew; exact (unhide S1).lo.is.later (Below.refl _ _).drew; rintro e w1b ⟨x1, lx1, mx1, rfl, hb, o1, a1, n1, k1⟩; have hbx : Below w0.heap.size w0 w1b := below_of_drew hb; have szw1b := hbx.size; replace z1 := fun o => frozen_later hbx (World.block_lt_of_cell? _ _ k1_0) (z1 o); replace k0_0 := cell_later hbx k0_0; replace k0_1 := cell_later hbx k0_1; replace k0_2 := cell_later hbx k0_2; replace k0_3 := cell_later hbx k0_3; replace k0_4 := cell_later hbx k0_4; replace k0_5 := cell_later hbx k0_5; replace k0_6 := cell_later hbx k0_6; replace k0_7 := cell_later hbx k0_7; replace k1_0 := cell_later hbx k1_0; replace k1_1 := cell_later hbx k1_1; replace k1_2 := cell_later hbx k1_2; replace k1_3 := cell_later hbx k1_3; replace k1_4 := cell_later hbx k1_4; replace k1_5 := cell_later hbx k1_5; replace k1_6 := cell_later hbx k1_6; replace k1_7 := cell_later hbx k1_7; replace k2_0 := cell_later hbx k2_0; replace k2_1 := cell_later hbx k2_1; replace k2_2 := cell_later hbx k2_2; replace k2_3 := cell_later hbx k2_3; replace OQ := hide ((unhide OQ).later hbx); replace S1 := hide ((unhide S1).later hbx); have Px1 := hide (isQ_of a1 n1 k1); have HBr := hide hbx; clear hbx hb o1 a1 n1 k1))
  replace HB := hide (below_on (unhide HB) (unhide HBr))
  clear HBr
  have LT := least_two' (x := ⟨x1, lowN (1 * dQ d.lo) (1 * nQ d.lo), lowD (1 * dQ d.lo) (1 * nQ d.lo)⟩) (y := ⟨x2, lowN (1 * dQ d.hi) (1 * nQ d.hi), lowD (1 * dQ d.hi) (1 * nQ d.hi)⟩) (low_low (unhide NZ).1) (low_low (unhide NZ).2) (unhide LE)
  have LT2 : Hid (((List.foldl stLo ⟨x1, lowN (1 * dQ d.lo) (1 * nQ d.lo), lowD (1 * dQ d.lo) (1 * nQ d.lo)⟩ [⟨x2, lowN (1 * dQ d.hi) (1 * nQ d.hi), lowD (1 * dQ d.hi) (1 * nQ d.hi)⟩]).N = lowN (1 * dQ d.hi) (1 * nQ d.hi) ∧ (List.foldl stLo ⟨x1, lowN (1 * dQ d.lo) (1 * nQ d.lo), lowD (1 * dQ d.lo) (1 * nQ d.lo)⟩ [⟨x2, lowN (1 * dQ d.hi) (1 * nQ d.hi), lowD (1 * dQ d.hi) (1 * nQ d.hi)⟩]).D = lowD (1 * dQ d.hi) (1 * nQ d.hi)) ∧ ((List.foldl stHi ⟨x1, lowN (1 * dQ d.lo) (1 * nQ d.lo), lowD (1 * dQ d.lo) (1 * nQ d.lo)⟩ [⟨x2, lowN (1 * dQ d.hi) (1 * nQ d.hi), lowD (1 * dQ d.hi) (1 * nQ d.hi)⟩]).N = lowN (1 * dQ d.lo) (1 * nQ d.lo) ∧ (List.foldl stHi ⟨x1, lowN (1 * dQ d.lo) (1 * nQ d.lo), lowD (1 * dQ d.lo) (1 * nQ d.lo)⟩ [⟨x2, lowN (1 * dQ d.hi) (1 * nQ d.hi), lowD (1 * dQ d.hi) (1 * nQ d.hi)⟩]).D = lowD (1 * dQ d.lo) (1 * nQ d.lo))) := hide LT
  clear LT
  go_wp2
  refine bodyPost_ret (v := .agg #[.bool r.lo.num.g, .slice r.lo.num.a r.lo.num.n r.lo.num.c, .bool r.lo.den.g, .slice r.lo.den.a r.lo.den.n r.lo.den.c, .bool r.hi.num.g, .slice r.hi.num.a r.hi.num.n r.hi.num.c, .bool r.hi.den.g, .slice r.hi.den.a r.hi.den.n r.hi.den.c]) (by simp [results, Try.results109, go_sem, k1_0, k1_1, k1_2, k1_3, k1_4, k1_5, k1_6, k1_7]) rfl ?_
  have oo := (unhide OR).1
  have aa := (unhide OR).2.1
  have nn := (unhide OR).2.2
  rw [(unhide LT2).1.1, (unhide LT2).1.2, (unhide LT2).2.1, (unhide LT2).2.2] at oo aa nn
  exact outS_fin (v := r) (R := w.heap.size + 1) (by omega) (unhide HB) (metS_but (w5 := w3) (v := r) (G := w.heap.size + 1)) (oo.wide (by simp; omega) (Nat.le_refl _)) aa nn.1 nn.2.1 nn.2.2.1 nn.2.2.2

set_option maxHeartbeats 4000000 in
theorem ofInvS (v : SV) (d : SD) (w : World) (h : AllAr w [(v.lo.num, d.lo.num), (v.lo.den, d.lo.den), (v.hi.num, d.hi.num), (v.hi.den, d.hi.den)]) (hn : hN d = false) :
    Calls Try.prog 108 #[.agg #[.bool v.lo.num.g, .slice v.lo.num.a v.lo.num.n v.lo.num.c, .bool v.lo.den.g, .slice v.lo.den.a v.lo.den.n v.lo.den.c, .bool v.hi.num.g, .slice v.hi.num.a v.hi.num.n v.hi.num.c, .bool v.hi.den.g, .slice v.hi.den.a v.hi.den.n v.hi.den.c], .func (Fn.func 109) #[] #[]] w (RetS w (AnsS (gS d) (lowN (1 * dQ d.hi) (1 * nQ d.hi)) (lowD (1 * dQ d.hi) (1 * nQ d.hi)) (lowN (1 * dQ d.lo) (1 * nQ d.lo)) (lowD (1 * dQ d.lo) (1 * nQ d.lo)))) := by
  have H1 := hide h
  clear h
  cases hg1 : gS d
  · have G1 := hide (fun w1 (k : AllAr w1 [(v.lo.num, d.lo.num), (v.lo.den, d.lo.den), (v.hi.num, d.hi.num), (v.hi.den, d.hi.den)]) => goodSI v d w1 k)
    rw [hg1] at G1
    clear hg1
    have B0 := hide (show Below w.heap.size w ((w.alloc (.cells #[.bool v.lo.num.g, .slice v.lo.num.a v.lo.num.n v.lo.num.c, .bool v.lo.den.g, .slice v.lo.den.a v.lo.den.n v.lo.den.c, .bool v.hi.num.g, .slice v.hi.num.a v.hi.num.n v.hi.num.c, .bool v.hi.den.g, .slice v.hi.den.a v.hi.den.n v.hi.den.c] 41)).alloc (.cells #[.bool false, .slice none 0 0, .bool false, .slice none 0 0, .bool false, .slice none 0 0, .bool false, .slice none 0 0] 41)) from (((Below.refl _ _).alloc (by simp) _).alloc (by simp) _))
    go_enter Try.func108, Try.ntmps108
    go_wp2_with fail
    refine (unhide G1 _ ((unhide H1).later (unhide B0))).mono ?_
    rintro e w1 ⟨rfl, hb⟩
    have s1 : w.heap.size + 1 < w1.heap.size := by have := hb.size; simp at this; omega
    have k1_0 : w1.cell? ⟨w.heap.size + 1, 0, none⟩ = some (.bool false) := cell_later hb (by simp [go_sem])
    have k1_1 : w1.cell? ⟨w.heap.size + 1, 1, none⟩ = some (.slice none 0 0) := cell_later hb (by simp [go_sem])
    have k1_2 : w1.cell? ⟨w.heap.size + 1, 2, none⟩ = some (.bool false) := cell_later hb (by simp [go_sem])
    have k1_3 : w1.cell? ⟨w.heap.size + 1, 3, none⟩ = some (.slice none 0 0) := cell_later hb (by simp [go_sem])
    have k1_4 : w1.cell? ⟨w.heap.size + 1, 4, none⟩ = some (.bool false) := cell_later hb (by simp [go_sem])
    have k1_5 : w1.cell? ⟨w.heap.size + 1, 5, none⟩ = some (.slice none 0 0) := cell_later hb (by simp [go_sem])
    have k1_6 : w1.cell? ⟨w.heap.size + 1, 6, none⟩ = some (.bool false) := cell_later hb (by simp [go_sem])
    have k1_7 : w1.cell? ⟨w.heap.size + 1, 7, none⟩ = some (.slice none 0 0) := cell_later hb (by simp [go_sem])
    have z1 : ∀ o, w1.frozen? ⟨w.heap.size + 1, o, none⟩ = false := fun o => frozen_later hb (by simp) (by simp [go_sem])
    have HB := hide (below_on (unhide B0) hb)
    clear hb
    go_wp2
    refine bodyPost_ret (v := .tuple #[.agg #[.bool false, .slice none 0 0, .bool false, .slice none 0 0, .bool false, .slice none 0 0, .bool false, .slice none 0 0], .bool false]) (by simp [results, Try.results108, go_sem, k1_0, k1_1, k1_2, k1_3, k1_4, k1_5, k1_6, k1_7]) rfl ?_
    exact retS_fin (v := (⟨⟨⟨false, none, 0, 0⟩, ⟨false, none, 0, 0⟩⟩, ⟨⟨false, none, 0, 0⟩, ⟨false, none, 0, 0⟩⟩⟩ : SV)) (d := (⟨⟨⟨false, []⟩, ⟨false, []⟩⟩, ⟨⟨false, []⟩, ⟨false, []⟩⟩⟩ : SD)) (R := w.heap.size + 1) (by omega) (unhide HB) (metS_but (w5 := w1) (v := (⟨⟨⟨false, none, 0, 0⟩, ⟨false, none, 0, 0⟩⟩, ⟨⟨false, none, 0, 0⟩, ⟨false, none, 0, 0⟩⟩⟩ : SV)) (G := w.heap.size + 1)) (zeroS _ _ _) (ansS_none _ _ _ _)
  · have G1 := hide (fun w1 (k : AllAr w1 [(v.lo.num, d.lo.num), (v.lo.den, d.lo.den), (v.hi.num, d.hi.num), (v.hi.den, d.hi.den)]) => goodSI v d w1 k)
    have j1 := isGoodS_of (unhide H1) hg1
    have NZ := hide ((show lowD (1 * dQ d.hi) (1 * nQ d.hi) ≠ 0 ∧ lowD (1 * dQ d.lo) (1 * nQ d.lo) ≠ 0 from by have hs := inv_signs j1.lo.pos j1.hi.pos j1.le (fun e => by have := (hN_iff hg1).2 e; rw [hn] at this; cases this); exact ⟨Int.ne_of_gt (lowD_pos (by rw [Int.one_mul]; exact fun e => by rw [e, Int.mul_zero] at hs; omega)), Int.ne_of_gt (lowD_pos (by rw [Int.one_mul]; exact fun e => by rw [e, Int.zero_mul] at hs; omega))⟩))
    have HP := hide (inv_signs j1.lo.pos j1.hi.pos j1.le (fun e => by have := (hN_iff hg1).2 e; rw [hn] at this; cases this))
    rw [hg1] at G1
    have J1 := hide j1
    clear hg1 j1
    have B0 := hide (show Below w.heap.size w ((w.alloc (.cells #[.bool v.lo.num.g, .slice v.lo.num.a v.lo.num.n v.lo.num.c, .bool v.lo.den.g, .slice v.lo.den.a v.lo.den.n v.lo.den.c, .bool v.hi.num.g, .slice v.hi.num.a v.hi.num.n v.hi.num.c, .bool v.hi.den.g, .slice v.hi.den.a v.hi.den.n v.hi.den.c] 41)).alloc (.cells #[.bool false, .slice none 0 0, .bool false, .slice none 0 0, .bool false, .slice none 0 0, .bool false, .slice none 0 0] 41)) from (((Below.refl _ _).alloc (by simp) _).alloc (by simp) _))
    go_enter Try.func108, Try.ntmps108
    go_wp2_with fail
    refine (unhide G1 _ ((unhide H1).later (unhide B0))).mono ?_
    rintro e w1 ⟨rfl, hb⟩
    have s1 : w.heap.size + 1 < w1.heap.size := by have := hb.size; simp at this; omega
    have k0_0 : w1.cell? ⟨w.heap.size, 0, none⟩ = some (.bool v.lo.num.g) := cell_later hb (by simp [go_sem])
    have k0_1 : w1.cell? ⟨w.heap.size, 1, none⟩ = some (.slice v.lo.num.a v.lo.num.n v.lo.num.c) := cell_later hb (by simp [go_sem])
    have k0_2 : w1.cell? ⟨w.heap.size, 2, none⟩ = some (.bool v.lo.den.g) := cell_later hb (by simp [go_sem])
    have k0_3 : w1.cell? ⟨w.heap.size, 3, none⟩ = some (.slice v.lo.den.a v.lo.den.n v.lo.den.c) := cell_later hb (by simp [go_sem])
    have k0_4 : w1.cell? ⟨w.heap.size, 4, none⟩ = some (.bool v.hi.num.g) := cell_later hb (by simp [go_sem])
    have k0_5 : w1.cell? ⟨w.heap.size, 5, none⟩ = some (.slice v.hi.num.a v.hi.num.n v.hi.num.c) := cell_later hb (by simp [go_sem])
    have k0_6 : w1.cell? ⟨w.heap.size, 6, none⟩ = some (.bool v.hi.den.g) := cell_later hb (by simp [go_sem])
    have k0_7 : w1.cell? ⟨w.heap.size, 7, none⟩ = some (.slice v.hi.den.a v.hi.den.n v.hi.den.c) := cell_later hb (by simp [go_sem])
    have k1_0 : w1.cell? ⟨w.heap.size + 1, 0, none⟩ = some (.bool false) := cell_later hb (by simp [go_sem])
    have k1_1 : w1.cell? ⟨w.heap.size + 1, 1, none⟩ = some (.slice none 0 0) := cell_later hb (by simp [go_sem])
    have k1_2 : w1.cell? ⟨w.heap.size + 1, 2, none⟩ = some (.bool false) := cell_later hb (by simp [go_sem])
    have k1_3 : w1.cell? ⟨w.heap.size + 1, 3, none⟩ = some (.slice none 0 0) := cell_later hb (by simp [go_sem])
    have k1_4 : w1.cell? ⟨w.heap.size + 1, 4, none⟩ = some (.bool false) := cell_later hb (by simp [go_sem])
    have k1_5 : w1.cell? ⟨w.heap.size + 1, 5, none⟩ = some (.slice none 0 0) := cell_later hb (by simp [go_sem])
    have k1_6 : w1.cell? ⟨w.heap.size + 1, 6, none⟩ = some (.bool false) := cell_later hb (by simp [go_sem])
    have k1_7 : w1.cell? ⟨w.heap.size + 1, 7, none⟩ = some (.slice none 0 0) := cell_later hb (by simp [go_sem])
    have z1 : ∀ o, w1.frozen? ⟨w.heap.size + 1, o, none⟩ = false := fun o => frozen_later hb (by simp) (by simp [go_sem])
    have HB := hide (below_on (unhide B0) hb)
    clear hb
    go_wp2_with fail
    refine (invSpan_v v d _ ((unhide J1).later (unhide HB)) (unhide HP)).mono ?_
    rintro e w3 ⟨r, xs, us, ys, vs, rfl, hb, or, ar, n1, n2, n3, n4⟩
    have s3 := hb.size
    have M1 : r.lo.den.n ≤ maxLen := Nat.le_trans ar.tail.head.ar.cap ar.tail.head.ar.top
    have M2 : r.hi.den.n ≤ maxLen := Nat.le_trans ar.tail.tail.tail.head.ar.cap ar.tail.tail.tail.head.ar.top
    have NN := hide (And.intro n1 (And.intro n2 (And.intro n3 n4)))
    replace z1 := fun o => frozen_later hb (World.block_lt_of_cell? _ _ k1_0) (z1 o)
    replace k1_0 := cell_later hb k1_0
    replace k1_1 := cell_later hb k1_1
    replace k1_2 := cell_later hb k1_2
    replace k1_3 := cell_later hb k1_3
    replace k1_4 := cell_later hb k1_4
    replace k1_5 := cell_later hb k1_5
    replace k1_6 := cell_later hb k1_6
    replace k1_7 := cell_later hb k1_7
    clear k0_0 k0_1 k0_2 k0_3 k0_4 k0_5 k0_6 k0_7
    have OR := hide (or)
    replace HB := hide (below_on (unhide HB) hb)
    clear hb
    clear or ar n1 n2 n3 n4
    go_wp2_with fail
    refine (whereS r _ _ _ _ xs us ys vs w1.heap.size w3.heap.size _ (unhide OR) (Nat.le_refl _) M1 M2 (unhide NN).1 (unhide NN).2.1 (unhide NN).2.2.1 (unhide NN).2.2.2 (unhide NZ).1 (unhide NZ).2).mono ?_
    rintro e w4 ⟨r2, dr, ok, rfl, hb, ov, hu⟩
    have s4 := hb.size
    have UU := hide hu
    replace z1 := fun o => frozen_later hb (World.block_lt_of_cell? _ _ k1_0) (z1 o)
    replace k1_0 := cell_later hb k1_0
    replace k1_1 := cell_later hb k1_1
    replace k1_2 := cell_later hb k1_2
    replace k1_3 := cell_later hb k1_3
    replace k1_4 := cell_later hb k1_4
    replace k1_5 := cell_later hb k1_5
    replace k1_6 := cell_later hb k1_6
    replace k1_7 := cell_later hb k1_7
    replace OR := hide ((unhide OR).later hb)
    have OV := hide (ov)
    replace HB := hide (below_on (unhide HB) hb)
    clear hb
    clear ov hu
    go_wp2
    refine bodyPost_ret (v := .tuple #[.agg #[.bool r2.lo.num.g, .slice r2.lo.num.a r2.lo.num.n r2.lo.num.c, .bool r2.lo.den.g, .slice r2.lo.den.a r2.lo.den.n r2.lo.den.c, .bool r2.hi.num.g, .slice r2.hi.num.a r2.hi.num.n r2.hi.num.c, .bool r2.hi.den.g, .slice r2.hi.den.a r2.hi.den.n r2.hi.den.c], .bool ok]) (by simp [results, Try.results108, go_sem, k1_0, k1_1, k1_2, k1_3, k1_4, k1_5, k1_6, k1_7]) rfl ?_
    exact retS_fin (v := r2) (d := dr) (R := w.heap.size + 1) (by omega) (unhide HB) (metS_but (w5 := w4) (v := r2) (G := w.heap.size + 1)) ((unhide OV).wide (by omega) (by omega)) (unhide UU)

set_option maxHeartbeats 4000000 in
theorem InvSI (v : SV) (d : SD) (w : World) (h : AllAr w [(v.lo.num, d.lo.num), (v.lo.den, d.lo.den), (v.hi.num, d.hi.num), (v.hi.den, d.hi.den)]) : Calls Try.prog 46 #[.agg #[.bool v.lo.num.g, .slice v.lo.num.a v.lo.num.n v.lo.num.c, .bool v.lo.den.g, .slice v.lo.den.a v.lo.den.n v.lo.den.c, .bool v.hi.num.g, .slice v.hi.num.a v.hi.num.n v.hi.num.c, .bool v.hi.den.g, .slice v.hi.den.a v.hi.den.n v.hi.den.c]] w (RetS w (AnsS (gS d && !hN d) (lowN (1 * dQ d.hi) (1 * nQ d.hi)) (lowD (1 * dQ d.hi) (1 * nQ d.hi)) (lowN (1 * dQ d.lo) (1 * nQ d.lo)) (lowD (1 * dQ d.lo) (1 * nQ d.lo)))) := by
  have H1 := hide h
  clear h
  cases hn : hN d
  · have HN := hide hn
    have G1 := hide (fun w1 (k : AllAr w1 [(v.lo.num, d.lo.num), (v.lo.den, d.lo.den), (v.hi.num, d.hi.num), (v.hi.den, d.hi.den)]) => hasN_v v d w1 k)
    rw [hn] at G1
    rw [show (gS d && !false) = gS d from by cases gS d <;> rfl]
    clear hn
    have B0 := hide (show Below w.heap.size w ((w.alloc (.cells #[.bool v.lo.num.g, .slice v.lo.num.a v.lo.num.n v.lo.num.c, .bool v.lo.den.g, .slice v.lo.den.a v.lo.den.n v.lo.den.c, .bool v.hi.num.g, .slice v.hi.num.a v.hi.num.n v.hi.num.c, .bool v.hi.den.g, .slice v.hi.den.a v.hi.den.n v.hi.den.c] 41)).alloc (.cells #[.bool false, .slice none 0 0, .bool false, .slice none 0 0, .bool false, .slice none 0 0, .bool false, .slice none 0 0] 41)) from (((Below.refl _ _).alloc (by simp) _).alloc (by simp) _))
    go_enter Try.func46, Try.ntmps46
    go_wp2_with fail
    refine (unhide G1 _ ((unhide H1).later (unhide B0))).mono ?_
    rintro e w1 ⟨rfl, hb⟩
    have s1 : w.heap.size + 1 < w1.heap.size := by have := hb.size; simp at this; omega
    have k0_0 : w1.cell? ⟨w.heap.size, 0, none⟩ = some (.bool v.lo.num.g) := cell_later hb (by simp [go_sem])
    have k0_1 : w1.cell? ⟨w.heap.size, 1, none⟩ = some (.slice v.lo.num.a v.lo.num.n v.lo.num.c) := cell_later hb (by simp [go_sem])
    have k0_2 : w1.cell? ⟨w.heap.size, 2, none⟩ = some (.bool v.lo.den.g) := cell_later hb (by simp [go_sem])
    have k0_3 : w1.cell? ⟨w.heap.size, 3, none⟩ = some (.slice v.lo.den.a v.lo.den.n v.lo.den.c) := cell_later hb (by simp [go_sem])
    have k0_4 : w1.cell? ⟨w.heap.size, 4, none⟩ = some (.bool v.hi.num.g) := cell_later hb (by simp [go_sem])
    have k0_5 : w1.cell? ⟨w.heap.size, 5, none⟩ = some (.slice v.hi.num.a v.hi.num.n v.hi.num.c) := cell_later hb (by simp [go_sem])
    have k0_6 : w1.cell? ⟨w.heap.size, 6, none⟩ = some (.bool v.hi.den.g) := cell_later hb (by simp [go_sem])
    have k0_7 : w1.cell? ⟨w.heap.size, 7, none⟩ = some (.slice v.hi.den.a v.hi.den.n v.hi.den.c) := cell_later hb (by simp [go_sem])
    have k1_0 : w1.cell? ⟨w.heap.size + 1, 0, none⟩ = some (.bool false) := cell_later hb (by simp [go_sem])
    have k1_1 : w1.cell? ⟨w.heap.size + 1, 1, none⟩ = some (.slice none 0 0) := cell_later hb (by simp [go_sem])
    have k1_2 : w1.cell? ⟨w.heap.size + 1, 2, none⟩ = some (.bool false) := cell_later hb (by simp [go_sem])
    have k1_3 : w1.cell? ⟨w.heap.size + 1, 3, none⟩ = some (.slice none 0 0) := cell_later hb (by simp [go_sem])
    have k1_4 : w1.cell? ⟨w.heap.size + 1, 4, none⟩ = some (.bool false) := cell_later hb (by simp [go_sem])
    have k1_5 : w1.cell? ⟨w.heap.size + 1, 5, none⟩ = some (.slice none 0 0) := cell_later hb (by simp [go_sem])
    have k1_6 : w1.cell? ⟨w.heap.size + 1, 6, none⟩ = some (.bool false) := cell_later hb (by simp [go_sem])
    have k1_7 : w1.cell? ⟨w.heap.size + 1, 7, none⟩ = some (.slice none 0 0) := cell_later hb (by simp [go_sem])
    have z1 : ∀ o, w1.frozen? ⟨w.heap.size + 1, o, none⟩ = false := fun o => frozen_later hb (by simp) (by simp [go_sem])
    have HB := hide (below_on (unhide B0) hb)
    clear hb
    go_wp2_with fail
    refine (ofInvS v d _ ((unhide H1).later (unhide HB)) (unhide HN)).mono ?_
    rintro e w2 ⟨r2, dr, ok, rfl, hb, ov, hu⟩
    have s2 := hb.size
    have UU := hide hu
    replace z1 := fun o => frozen_later hb (World.block_lt_of_cell? _ _ k1_0) (z1 o)
    replace k1_0 := cell_later hb k1_0
    replace k1_1 := cell_later hb k1_1
    replace k1_2 := cell_later hb k1_2
    replace k1_3 := cell_later hb k1_3
    replace k1_4 := cell_later hb k1_4
    replace k1_5 := cell_later hb k1_5
    replace k1_6 := cell_later hb k1_6
    replace k1_7 := cell_later hb k1_7
    clear k0_0 k0_1 k0_2 k0_3 k0_4 k0_5 k0_6 k0_7
    have OV := hide (ov)
    replace HB := hide (below_on (unhide HB) hb)
    clear hb
    clear ov hu
    go_wp2
    refine bodyPost_ret (v := .tuple #[.agg #[.bool r2.lo.num.g, .slice r2.lo.num.a r2.lo.num.n r2.lo.num.c, .bool r2.lo.den.g, .slice r2.lo.den.a r2.lo.den.n r2.lo.den.c, .bool r2.hi.num.g, .slice r2.hi.num.a r2.hi.num.n r2.hi.num.c, .bool r2.hi.den.g, .slice r2.hi.den.a r2.hi.den.n r2.hi.den.c], .bool ok]) (by simp [results, Try.results46, go_sem, k1_0, k1_1, k1_2, k1_3, k1_4, k1_5, k1_6, k1_7]) rfl ?_
    exact retS_fin (v := r2) (d := dr) (R := w.heap.size + 1) (by omega) (unhide HB) (metS_but (w5 := w2) (v := r2) (G := w.heap.size + 1)) ((unhide OV).wide (by omega) (by omega)) (unhide UU)
  · have G1 := hide (fun w1 (k : AllAr w1 [(v.lo.num, d.lo.num), (v.lo.den, d.lo.den), (v.hi.num, d.hi.num), (v.hi.den, d.hi.den)]) => hasN_v v d w1 k)
    rw [hn] at G1
    rw [show (gS d && !true) = false from by cases gS d <;> rfl]
    clear hn
    have B0 := hide (show Below w.heap.size w ((w.alloc (.cells #[.bool v.lo.num.g, .slice v.lo.num.a v.lo.num.n v.lo.num.c, .bool v.lo.den.g, .slice v.lo.den.a v.lo.den.n v.lo.den.c, .bool v.hi.num.g, .slice v.hi.num.a v.hi.num.n v.hi.num.c, .bool v.hi.den.g, .slice v.hi.den.a v.hi.den.n v.hi.den.c] 41)).alloc (.cells #[.bool false, .slice none 0 0, .bool false, .slice none 0 0, .bool false, .slice none 0 0, .bool false, .slice none 0 0] 41)) from (((Below.refl _ _).alloc (by simp) _).alloc (by simp) _))
    go_enter Try.func46, Try.ntmps46
    go_wp2_with fail
    refine (unhide G1 _ ((unhide H1).later (unhide B0))).mono ?_
    rintro e w1 ⟨rfl, hb⟩
    have s1 : w.heap.size + 1 < w1.heap.size := by have := hb.size; simp at this; omega
    have k1_0 : w1.cell? ⟨w.heap.size + 1, 0, none⟩ = some (.bool false) := cell_later hb (by simp [go_sem])
    have k1_1 : w1.cell? ⟨w.heap.size + 1, 1, none⟩ = some (.slice none 0 0) := cell_later hb (by simp [go_sem])
    have k1_2 : w1.cell? ⟨w.heap.size + 1, 2, none⟩ = some (.bool false) := cell_later hb (by simp [go_sem])
    have k1_3 : w1.cell? ⟨w.heap.size + 1, 3, none⟩ = some (.slice none 0 0) := cell_later hb (by simp [go_sem])
    have k1_4 : w1.cell? ⟨w.heap.size + 1, 4, none⟩ = some (.bool false) := cell_later hb (by simp [go_sem])
    have k1_5 : w1.cell? ⟨w.heap.size + 1, 5, none⟩ = some (.slice none 0 0) := cell_later hb (by simp [go_sem])
    have k1_6 : w1.cell? ⟨w.heap.size + 1, 6, none⟩ = some (.bool false) := cell_later hb (by simp [go_sem])
    have k1_7 : w1.cell? ⟨w.heap.size + 1, 7, none⟩ = some (.slice none 0 0) := cell_later hb (by simp [go_sem])
    have z1 : ∀ o, w1.frozen? ⟨w.heap.size + 1, o, none⟩ = false := fun o => frozen_later hb (by simp) (by simp [go_sem])
    have HB := hide (below_on (unhide B0) hb)
    clear hb
    go_wp2
    refine bodyPost_ret (v := .tuple #[.agg #[.bool false, .slice none 0 0, .bool false, .slice none 0 0, .bool false, .slice none 0 0, .bool false, .slice none 0 0], .bool false]) (by simp [results, Try.results46, go_sem, k1_0, k1_1, k1_2, k1_3, k1_4, k1_5, k1_6, k1_7]) rfl ?_
    exact retS_fin (v := (⟨⟨⟨false, none, 0, 0⟩, ⟨false, none, 0, 0⟩⟩, ⟨⟨false, none, 0, 0⟩, ⟨false, none, 0, 0⟩⟩⟩ : SV)) (d := (⟨⟨⟨false, []⟩, ⟨false, []⟩⟩, ⟨⟨false, []⟩, ⟨false, []⟩⟩⟩ : SD)) (R := w.heap.size + 1) (by omega) (unhide HB) (metS_but (w5 := w1) (v := (⟨⟨⟨false, none, 0, 0⟩, ⟨false, none, 0, 0⟩⟩, ⟨⟨false, none, 0, 0⟩, ⟨false, none, 0, 0⟩⟩⟩ : SV)) (G := w.heap.size + 1)) (zeroS _ _ _) (ansS_none _ _ _ _)

set_option maxHeartbeats 8000000 in
theorem InvSS (v : SV) (d : SD) (w : World) (h : AllAr w [(v.lo.num, d.lo.num), (v.lo.den, d.lo.den), (v.hi.num, d.hi.num), (v.hi.den, d.hi.den)]) : Calls Try.prog 45 #[.agg #[.bool v.lo.num.g, .slice v.lo.num.a v.lo.num.n v.lo.num.c, .bool v.lo.den.g, .slice v.lo.den.a v.lo.den.n v.lo.den.c, .bool v.hi.num.g, .slice v.hi.num.a v.hi.num.n v.hi.num.c, .bool v.hi.den.g, .slice v.hi.den.a v.hi.den.n v.hi.den.c]] w (RetS w (AnsS (gS d && !hN d) (lowN (1 * dQ d.hi) (1 * nQ d.hi)) (lowD (1 * dQ d.hi) (1 * nQ d.hi)) (lowN (1 * dQ d.lo) (1 * nQ d.lo)) (lowD (1 * dQ d.lo) (1 * nQ d.lo)))) := by
  have H1 := hide h
  clear h
  cases hg1 : gS d
  · have G1 := hide (fun w1 (k : AllAr w1 [(v.lo.num, d.lo.num), (v.lo.den, d.lo.den), (v.hi.num, d.hi.num), (v.hi.den, d.hi.den)]) => goodSS v d w1 k)
    rw [hg1] at G1
    rw [Bool.false_and]
    clear hg1
    go_enter Try.func45, Try.ntmps45
    go_upto_region 1 with fail
    have hb : Below w.heap.size w ((w.alloc (.cells #[.bool v.lo.num.g, .slice v.lo.num.a v.lo.num.n v.lo.num.c, .bool v.lo.den.g, .slice v.lo.den.a v.lo.den.n v.lo.den.c, .bool v.hi.num.g, .slice v.hi.num.a v.hi.num.n v.hi.num.c, .bool v.hi.den.g, .slice v.hi.den.a v.hi.den.n v.hi.den.c] 41)).alloc (.cells #[.bool false, .slice none 0 0, .bool false, .slice none 0 0, .bool false, .slice none 0 0, .bool false, .slice none 0 0] 41)) := (((Below.refl _ _).alloc (by simp) _).alloc (by simp) _)
    have k0_0 : ((w.alloc (.cells #[.bool v.lo.num.g, .slice v.lo.num.a v.lo.num.n v.lo.num.c, .bool v.lo.den.g, .slice v.lo.den.a v.lo.den.n v.lo.den.c, .bool v.hi.num.g, .slice v.hi.num.a v.hi.num.n v.hi.num.c, .bool v.hi.den.g, .slice v.hi.den.a v.hi.den.n v.hi.den.c] 41)).alloc (.cells #[.bool false, .slice none 0 0, .bool false, .slice none 0 0, .bool false, .slice none 0 0, .bool false, .slice none 0 0] 41)).cell? ⟨w.heap.size, 0, none⟩ = some (.bool v.lo.num.g) := by simp [go_sem]
    have k0_1 : ((w.alloc (.cells #[.bool v.lo.num.g, .slice v.lo.num.a v.lo.num.n v.lo.num.c, .bool v.lo.den.g, .slice v.lo.den.a v.lo.den.n v.lo.den.c, .bool v.hi.num.g, .slice v.hi.num.a v.hi.num.n v.hi.num.c, .bool v.hi.den.g, .slice v.hi.den.a v.hi.den.n v.hi.den.c] 41)).alloc (.cells #[.bool false, .slice none 0 0, .bool false, .slice none 0 0, .bool false, .slice none 0 0, .bool false, .slice none 0 0] 41)).cell? ⟨w.heap.size, 1, none⟩ = some (.slice v.lo.num.a v.lo.num.n v.lo.num.c) := by simp [go_sem]
    have k0_2 : ((w.alloc (.cells #[.bool v.lo.num.g, .slice v.lo.num.a v.lo.num.n v.lo.num.c, .bool v.lo.den.g, .slice v.lo.den.a v.lo.den.n v.lo.den.c, .bool v.hi.num.g, .slice v.hi.num.a v.hi.num.n v.hi.num.c, .bool v.hi.den.g, .slice v.hi.den.a v.hi.den.n v.hi.den.c] 41)).alloc (.cells #[.bool false, .slice none 0 0, .bool false, .slice none 0 0, .bool false, .slice none 0 0, .bool false, .slice none 0 0] 41)).cell? ⟨w.heap.size, 2, none⟩ = some (.bool v.lo.den.g) := by simp [go_sem]
    have k0_3 : ((w.alloc (.cells #[.bool v.lo.num.g, .slice v.lo.num.a v.lo.num.n v.lo.num.c, .bool v.lo.den.g, .slice v.lo.den.a v.lo.den.n v.lo.den.c, .bool v.hi.num.g, .slice v.hi.num.a v.hi.num.n v.hi.num.c, .bool v.hi.den.g, .slice v.hi.den.a v.hi.den.n v.hi.den.c] 41)).alloc (.cells #[.bool false, .slice none 0 0, .bool false, .slice none 0 0, .bool false, .slice none 0 0, .bool false, .slice none 0 0] 41)).cell? ⟨w.heap.size, 3, none⟩ = some (.slice v.lo.den.a v.lo.den.n v.lo.den.c) := by simp [go_sem]
    have k0_4 : ((w.alloc (.cells #[.bool v.lo.num.g, .slice v.lo.num.a v.lo.num.n v.lo.num.c, .bool v.lo.den.g, .slice v.lo.den.a v.lo.den.n v.lo.den.c, .bool v.hi.num.g, .slice v.hi.num.a v.hi.num.n v.hi.num.c, .bool v.hi.den.g, .slice v.hi.den.a v.hi.den.n v.hi.den.c] 41)).alloc (.cells #[.bool false, .slice none 0 0, .bool false, .slice none 0 0, .bool false, .slice none 0 0, .bool false, .slice none 0 0] 41)).cell? ⟨w.heap.size, 4, none⟩ = some (.bool v.hi.num.g) := by simp [go_sem]
    have k0_5 : ((w.alloc (.cells #[.bool v.lo.num.g, .slice v.lo.num.a v.lo.num.n v.lo.num.c, .bool v.lo.den.g, .slice v.lo.den.a v.lo.den.n v.lo.den.c, .bool v.hi.num.g, .slice v.hi.num.a v.hi.num.n v.hi.num.c, .bool v.hi.den.g, .slice v.hi.den.a v.hi.den.n v.hi.den.c] 41)).alloc (.cells #[.bool false, .slice none 0 0, .bool false, .slice none 0 0, .bool false, .slice none 0 0, .bool false, .slice none 0 0] 41)).cell? ⟨w.heap.size, 5, none⟩ = some (.slice v.hi.num.a v.hi.num.n v.hi.num.c) := by simp [go_sem]
    have k0_6 : ((w.alloc (.cells #[.bool v.lo.num.g, .slice v.lo.num.a v.lo.num.n v.lo.num.c, .bool v.lo.den.g, .slice v.lo.den.a v.lo.den.n v.lo.den.c, .bool v.hi.num.g, .slice v.hi.num.a v.hi.num.n v.hi.num.c, .bool v.hi.den.g, .slice v.hi.den.a v.hi.den.n v.hi.den.c] 41)).alloc (.cells #[.bool false, .slice none 0 0, .bool false, .slice none 0 0, .bool false, .slice none 0 0, .bool false, .slice none 0 0] 41)).cell? ⟨w.heap.size, 6, none⟩ = some (.bool v.hi.den.g) := by simp [go_sem]
    have k0_7 : ((w.alloc (.cells #[.bool v.lo.num.g, .slice v.lo.num.a v.lo.num.n v.lo.num.c, .bool v.lo.den.g, .slice v.lo.den.a v.lo.den.n v.lo.den.c, .bool v.hi.num.g, .slice v.hi.num.a v.hi.num.n v.hi.num.c, .bool v.hi.den.g, .slice v.hi.den.a v.hi.den.n v.hi.den.c] 41)).alloc (.cells #[.bool false, .slice none 0 0, .bool false, .slice none 0 0, .bool false, .slice none 0 0, .bool false, .slice none 0 0] 41)).cell? ⟨w.heap.size, 7, none⟩ = some (.slice v.hi.den.a v.hi.den.n v.hi.den.c) := by simp [go_sem]
    have k1_0 : ((w.alloc (.cells #[.bool v.lo.num.g, .slice v.lo.num.a v.lo.num.n v.lo.num.c, .bool v.lo.den.g, .slice v.lo.den.a v.lo.den.n v.lo.den.c, .bool v.hi.num.g, .slice v.hi.num.a v.hi.num.n v.hi.num.c, .bool v.hi.den.g, .slice v.hi.den.a v.hi.den.n v.hi.den.c] 41)).alloc (.cells #[.bool false, .slice none 0 0, .bool false, .slice none 0 0, .bool false, .slice none 0 0, .bool false, .slice none 0 0] 41)).cell? ⟨w.heap.size + 1, 0, none⟩ = some (.bool false) := by simp [go_sem]
    have k1_1 : ((w.alloc (.cells #[.bool v.lo.num.g, .slice v.lo.num.a v.lo.num.n v.lo.num.c, .bool v.lo.den.g, .slice v.lo.den.a v.lo.den.n v.lo.den.c, .bool v.hi.num.g, .slice v.hi.num.a v.hi.num.n v.hi.num.c, .bool v.hi.den.g, .slice v.hi.den.a v.hi.den.n v.hi.den.c] 41)).alloc (.cells #[.bool false, .slice none 0 0, .bool false, .slice none 0 0, .bool false, .slice none 0 0, .bool false, .slice none 0 0] 41)).cell? ⟨w.heap.size + 1, 1, none⟩ = some (.slice none 0 0) := by simp [go_sem]
    have k1_2 : ((w.alloc (.cells #[.bool v.lo.num.g, .slice v.lo.num.a v.lo.num.n v.lo.num.c, .bool v.lo.den.g, .slice v.lo.den.a v.lo.den.n v.lo.den.c, .bool v.hi.num.g, .slice v.hi.num.a v.hi.num.n v.hi.num.c, .bool v.hi.den.g, .slice v.hi.den.a v.hi.den.n v.hi.den.c] 41)).alloc (.cells #[.bool false, .slice none 0 0, .bool false, .slice none 0 0, .bool false, .slice none 0 0, .bool false, .slice none 0 0] 41)).cell? ⟨w.heap.size + 1, 2, none⟩ = some (.bool false) := by simp [go_sem]
    have k1_3 : ((w.alloc (.cells #[.bool v.lo.num.g, .slice v.lo.num.a v.lo.num.n v.lo.num.c, .bool v.lo.den.g, .slice v.lo.den.a v.lo.den.n v.lo.den.c, .bool v.hi.num.g, .slice v.hi.num.a v.hi.num.n v.hi.num.c, .bool v.hi.den.g, .slice v.hi.den.a v.hi.den.n v.hi.den.c] 41)).alloc (.cells #[.bool false, .slice none 0 0, .bool false, .slice none 0 0, .bool false, .slice none 0 0, .bool false, .slice none 0 0] 41)).cell? ⟨w.heap.size + 1, 3, none⟩ = some (.slice none 0 0) := by simp [go_sem]
    have k1_4 : ((w.alloc (.cells #[.bool v.lo.num.g, .slice v.lo.num.a v.lo.num.n v.lo.num.c, .bool v.lo.den.g, .slice v.lo.den.a v.lo.den.n v.lo.den.c, .bool v.hi.num.g, .slice v.hi.num.a v.hi.num.n v.hi.num.c, .bool v.hi.den.g, .slice v.hi.den.a v.hi.den.n v.hi.den.c] 41)).alloc (.cells #[.bool false, .slice none 0 0, .bool false, .slice none 0 0, .bool false, .slice none 0 0, .bool false, .slice none 0 0] 41)).cell? ⟨w.heap.size + 1, 4, none⟩ = some (.bool false) := by simp [go_sem]
    have k1_5 : ((w.alloc (.cells #[.bool v.lo.num.g, .slice v.lo.num.a v.lo.num.n v.lo.num.c, .bool v.lo.den.g, .slice v.lo.den.a v.lo.den.n v.lo.den.c, .bool v.hi.num.g, .slice v.hi.num.a v.hi.num.n v.hi.num.c, .bool v.hi.den.g, .slice v.hi.den.a v.hi.den.n v.hi.den.c] 41)).alloc (.cells #[.bool false, .slice none 0 0, .bool false, .slice none 0 0, .bool false, .slice none 0 0, .bool false, .slice none 0 0] 41)).cell? ⟨w.heap.size + 1, 5, none⟩ = some (.slice none 0 0) := by simp [go_sem]
    have k1_6 : ((w.alloc (.cells #[.bool v.lo.num.g, .slice v.lo.num.a v.lo.num.n v.lo.num.c, .bool v.lo.den.g, .slice v.lo.den.a v.lo.den.n v.lo.den.c, .bool v.hi.num.g, .slice v.hi.num.a v.hi.num.n v.hi.num.c, .bool v.hi.den.g, .slice v.hi.den.a v.hi.den.n v.hi.den.c] 41)).alloc (.cells #[.bool false, .slice none 0 0, .bool false, .slice none 0 0, .bool false, .slice none 0 0, .bool false, .slice none 0 0] 41)).cell? ⟨w.heap.size + 1, 6, none⟩ = some (.bool false) := by simp [go_sem]
    have k1_7 : ((w.alloc (.cells #[.bool v.lo.num.g, .slice v.lo.num.a v.lo.num.n v.lo.num.c, .bool v.lo.den.g, .slice v.lo.den.a v.lo.den.n v.lo.den.c, .bool v.hi.num.g, .slice v.hi.num.a v.hi.num.n v.hi.num.c, .bool v.hi.den.g, .slice v.hi.den.a v.hi.den.n v.hi.den.c] 41)).alloc (.cells #[.bool false, .slice none 0 0, .bool false, .slice none 0 0, .bool false, .slice none 0 0, .bool false, .slice none 0 0] 41)).cell? ⟨w.heap.size + 1, 7, none⟩ = some (.slice none 0 0) := by simp [go_sem]
    have z1 : ∀ o, ((w.alloc (.cells #[.bool v.lo.num.g, .slice v.lo.num.a v.lo.num.n v.lo.num.c, .bool v.lo.den.g, .slice v.lo.den.a v.lo.den.n v.lo.den.c, .bool v.hi.num.g, .slice v.hi.num.a v.hi.num.n v.hi.num.c, .bool v.hi.den.g, .slice v.hi.den.a v.hi.den.n v.hi.den.c] 41)).alloc (.cells #[.bool false, .slice none 0 0, .bool false, .slice none 0 0, .bool false, .slice none 0 0, .bool false, .slice none 0 0] 41)).frozen? ⟨w.heap.size + 1, o, none⟩ = false := fun o => by simp [go_sem]
    have H1w := hide ((unhide H1).later hb)
    have szw0 : w.heap.size + 2 ≤ ((w.alloc (.cells #[.bool v.lo.num.g, .slice v.lo.num.a v.lo.num.n v.lo.num.c, .bool v.lo.den.g, .slice v.lo.den.a v.lo.den.n v.lo.den.c, .bool v.hi.num.g, .slice v.hi.num.a v.hi.num.n v.hi.num.c, .bool v.hi.den.g, .slice v.hi.den.a v.hi.den.n v.hi.den.c] 41)).alloc (.cells #[.bool false, .slice none 0 0, .bool false, .slice none 0 0, .bool false, .slice none 0 0, .bool false, .slice none 0 0] 41)).heap.size := by simp
    have HB := hide hb
    clear hb
    generalize ((w.alloc (.cells #[.bool v.lo.num.g, .slice v.lo.num.a v.lo.num.n v.lo.num.c, .bool v.lo.den.g, .slice v.lo.den.a v.lo.den.n v.lo.den.c, .bool v.hi.num.g, .slice v.hi.num.a v.hi.num.n v.hi.num.c, .bool v.hi.den.g, .slice v.hi.den.a v.hi.den.n v.hi.den.c] 41)).alloc (.cells #[.bool false, .slice none 0 0, .bool false, .slice none 0 0, .bool false, .slice none 0 0, .bool false, .slice none 0 0] 41)) = w0 at *
    go_region_with (first
      | (go_at_call 105; refine (unhide G1 _ ?_).mono ?_; exact (unhide H1w).later (Below.refl _ _).drew; rintro e w1 ⟨rfl, hb⟩; have hbx : Below w0.heap.size w0 w1 := below_of_drew hb; have szw1 := hbx.size; replace z1 := fun o => frozen_later hbx (World.block_lt_of_cell? _ _ k1_0) (z1 o); replace k0_0 := cell_later hbx k0_0; replace k0_1 := cell_later hbx k0_1; replace k0_2 := cell_later hbx k0_2; replace k0_3 := cell_later hbx k0_3; replace k0_4 := cell_later hbx k0_4; replace k0_5 := cell_later hbx k0_5; replace k0_6 := cell_later hbx k0_6; replace k0_7 := cell_later hbx k0_7; replace k1_0 := cell_later hbx k1_0; replace k1_1 := cell_later hbx k1_1; replace k1_2 := cell_later hbx k1_2; replace k1_3 := cell_later hbx k1_3; replace k1_4 := cell_later hbx k1_4; replace k1_5 := cell_later hbx k1_5; replace k1_6 := cell_later hbx k1_6; replace k1_7 := cell_later hbx k1_7; replace H1w := hide ((unhide H1w).later hbx); have HBr := hide hbx; clear hbx hb))
    all_goals
      replace HB := hide (below_on (unhide HB) (unhide HBr))
      clear HBr
      go_wp2
      refine bodyPost_ret (v := .tuple #[.agg #[.bool false, .slice none 0 0, .bool false, .slice none 0 0, .bool false, .slice none 0 0, .bool false, .slice none 0 0], .bool false]) (by simp [results, Try.results45, go_sem, k1_0, k1_1, k1_2, k1_3, k1_4, k1_5, k1_6, k1_7]) rfl ?_
      exact retS_fin (v := (⟨⟨⟨false, none, 0, 0⟩, ⟨false, none, 0, 0⟩⟩, ⟨⟨false, none, 0, 0⟩, ⟨false, none, 0, 0⟩⟩⟩ : SV)) (d := (⟨⟨⟨false, []⟩, ⟨false, []⟩⟩, ⟨⟨false, []⟩, ⟨false, []⟩⟩⟩ : SD)) (R := w.heap.size + 1) (by omega) (unhide HB) (metS_but (w5 := w1) (v := (⟨⟨⟨false, none, 0, 0⟩, ⟨false, none, 0, 0⟩⟩, ⟨⟨false, none, 0, 0⟩, ⟨false, none, 0, 0⟩⟩⟩ : SV)) (G := w.heap.size + 1)) (zeroS _ _ _) (ansS_none _ _ _ _)
  · cases hn : hN d
    · have G1 := hide (fun w1 (k : AllAr w1 [(v.lo.num, d.lo.num), (v.lo.den, d.lo.den), (v.hi.num, d.hi.num), (v.hi.den, d.hi.den)]) => goodSS v d w1 k)
      rw [hg1] at G1
      have j1 := isGoodS_of (unhide H1) hg1
      have EI := hide ((inQ_zero hg1).trans hn)
      have HS := hide (inv_signs j1.lo.pos j1.hi.pos j1.le (fun e => by have := (hN_iff hg1).2 e; rw [hn] at this; cases this))
      have J1 := hide j1
      rw [show (true && !false) = true from rfl]
      clear hg1 hn j1
      go_enter Try.func45, Try.ntmps45
      go_upto_region 1 with fail
      have hb : Below w.heap.size w ((w.alloc (.cells #[.bool v.lo.num.g, .slice v.lo.num.a v.lo.num.n v.lo.num.c, .bool v.lo.den.g, .slice v.lo.den.a v.lo.den.n v.lo.den.c, .bool v.hi.num.g, .slice v.hi.num.a v.hi.num.n v.hi.num.c, .bool v.hi.den.g, .slice v.hi.den.a v.hi.den.n v.hi.den.c] 41)).alloc (.cells #[.bool false, .slice none 0 0, .bool false, .slice none 0 0, .bool false, .slice none 0 0, .bool false, .slice none 0 0] 41)) := (((Below.refl _ _).alloc (by simp) _).alloc (by simp) _)
      have k0_0 : ((w.alloc (.cells #[.bool v.lo.num.g, .slice v.lo.num.a v.lo.num.n v.lo.num.c, .bool v.lo.den.g, .slice v.lo.den.a v.lo.den.n v.lo.den.c, .bool v.hi.num.g, .slice v.hi.num.a v.hi.num.n v.hi.num.c, .bool v.hi.den.g, .slice v.hi.den.a v.hi.den.n v.hi.den.c] 41)).alloc (.cells #[.bool false, .slice none 0 0, .bool false, .slice none 0 0, .bool false, .slice none 0 0, .bool false, .slice none 0 0] 41)).cell? ⟨w.heap.size, 0, none⟩ = some (.bool v.lo.num.g) := by simp [go_sem]
      have k0_1 : ((w.alloc (.cells #[.bool v.lo.num.g, .slice v.lo.num.a v.lo.num.n v.lo.num.c, .bool v.lo.den.g, .slice v.lo.den.a v.lo.den.n v.lo.den.c, .bool v.hi.num.g, .slice v.hi.num.a v.hi.num.n v.hi.num.c, .bool v.hi.den.g, .slice v.hi.den.a v.hi.den.n v.hi.den.c] 41)).alloc (.cells #[.bool false, .slice none 0 0, .bool false, .slice none 0 0, .bool false, .slice none 0 0, .bool false, .slice none 0 0] 41)).cell? ⟨w.heap.size, 1, none⟩ = some (.slice v.lo.num.a v.lo.num.n v.lo.num.c) := by simp [go_sem]
      have k0_2 : ((w.alloc (.cells #[.bool v.lo.num.g, .slice v.lo.num.a v.lo.num.n v.lo.num.c, .bool v.lo.den.g, .slice v.lo.den.a v.lo.den.n v.lo.den.c, .bool v.hi.num.g, .slice v.hi.num.a v.hi.num.n v.hi.num.c, .bool v.hi.den.g, .slice v.hi.den.a v.hi.den.n v.hi.den.c] 41)).alloc (.cells #[.bool false, .slice none 0 0, .bool false, .slice none 0 0, .bool false, .slice none 0 0, .bool false, .slice none 0 0] 41)).cell? ⟨w.heap.size, 2, none⟩ = some (.bool v.lo.den.g) := by simp [go_sem]
      have k0_3 : ((w.alloc (.cells #[.bool v.lo.num.g, .slice v.lo.num.a v.lo.num.n v.lo.num.c, .bool v.lo.den.g, .slice v.lo.den.a v.lo.den.n v.lo.den.c, .bool v.hi.num.g, .slice v.hi.num.a v.hi.num.n v.hi.num.c, .bool v.hi.den.g, .slice v.hi.den.a v.hi.den.n v.hi.den.c] 41)).alloc (.cells #[.bool false, .slice none 0 0, .bool false, .slice none 0 0, .bool false, .slice none 0 0, .bool false, .slice none 0 0] 41)).cell? ⟨w.heap.size, 3, none⟩ = some (.slice v.lo.den.a v.lo.den.n v.lo.den.c) := by simp [go_sem]
      have k0_4 : ((w.alloc (.cells #[.bool v.lo.num.g, .slice v.lo.num.a v.lo.num.n v.lo.num.c, .bool v.lo.den.g, .slice v.lo.den.a v.lo.den.n v.lo.den.c, .bool v.hi.num.g, .slice v.hi.num.a v.hi.num.n v.hi.num.c, .bool v.hi.den.g, .slice v.hi.den.a v.hi.den.n v.hi.den.c] 41)).alloc (.cells #[.bool false, .slice none 0 0, .bool false, .slice none 0 0, .bool false, .slice none 0 0, .bool false, .slice none 0 0] 41)).cell? ⟨w.heap.size, 4, none⟩ = some (.bool v.hi.num.g) := by simp [go_sem]
      have k0_5 : ((w.alloc (.cells #[.bool v.lo.num.g, .slice v.lo.num.a v.lo.num.n v.lo.num.c, .bool v.lo.den.g, .slice v.lo.den.a v.lo.den.n v.lo.den.c, .bool v.hi.num.g, .slice v.hi.num.a v.hi.num.n v.hi.num.c, .bool v.hi.den.g, .slice v.hi.den.a v.hi.den.n v.hi.den.c] 41)).alloc (.cells #[.bool false, .slice none 0 0, .bool false, .slice none 0 0, .bool false, .slice none 0 0, .bool false, .slice none 0 0] 41)).cell? ⟨w.heap.size, 5, none⟩ = some (.slice v.hi.num.a v.hi.num.n v.hi.num.c) := by simp [go_sem]
      have k0_6 : ((w.alloc (.cells #[.bool v.lo.num.g, .slice v.lo.num.a v.lo.num.n v.lo.num.c, .bool v.lo.den.g, .slice v.lo.den.a v.lo.den.n v.lo.den.c, .bool v.hi.num.g, .slice v.hi.num.a v.hi.num.n v.hi.num.c, .bool v.hi.den.g, .slice v.hi.den.a v.hi.den.n v.hi.den.c] 41)).alloc (.cells #[.bool false, .slice none 0 0, .bool false, .slice none 0 0, .bool false, .slice none 0 0, .bool false, .slice none 0 0] 41)).cell? ⟨w.heap.size, 6, none⟩ = some (.bool v.hi.den.g) := by simp [go_sem]
      have k0_7 : ((w.alloc (.cells #[.bool v.lo.num.g, .slice v.lo.num.a v.lo.num.n v.lo.num.c, .bool v.lo.den.g, .slice v.lo.den.a v.lo.den.n v.lo.den.c, .bool v.hi.num.g, .slice v.hi.num.a v.hi.num.n v.hi.num.c, .bool v.hi.den.g, .slice v.hi.den.a v.hi.den.n v.hi.den.c] 41)).alloc (.cells #[.bool false, .slice none 0 0, .bool false, .slice none 0 0, .bool false, .slice none 0 0, .bool false, .slice none 0 0] 41)).cell? ⟨w.heap.size, 7, none⟩ = some (.slice v.hi.den.a v.hi.den.n v.hi.den.c) := by simp [go_sem]
      have k1_0 : ((w.alloc (.cells #[.bool v.lo.num.g, .slice v.lo.num.a v.lo.num.n v.lo.num.c, .bool v.lo.den.g, .slice v.lo.den.a v.lo.den.n v.lo.den.c, .bool v.hi.num.g, .slice v.hi.num.a v.hi.num.n v.hi.num.c, .bool v.hi.den.g, .slice v.hi.den.a v.hi.den.n v.hi.den.c] 41)).alloc (.cells #[.bool false, .slice none 0 0, .bool false, .slice none 0 0, .bool false, .slice none 0 0, .bool false, .slice none 0 0] 41)).cell? ⟨w.heap.size + 1, 0, none⟩ = some (.bool false) := by simp [go_sem]
      have k1_1 : ((w.alloc (.cells #[.bool v.lo.num.g, .slice v.lo.num.a v.lo.num.n v.lo.num.c, .bool v.lo.den.g, .slice v.lo.den.a v.lo.den.n v.lo.den.c, .bool v.hi.num.g, .slice v.hi.num.a v.hi.num.n v.hi.num.c, .bool v.hi.den.g, .slice v.hi.den.a v.hi.den.n v.hi.den.c] 41)).alloc (.cells #[.bool false, .slice none 0 0, .bool false, .slice none 0 0, .bool false, .slice none 0 0, .bool false, .slice none 0 0] 41)).cell? ⟨w.heap.size + 1, 1, none⟩ = some (.slice none 0 0) := by simp [go_sem]
      have k1_2 : ((w.alloc (.cells #[.bool v.lo.num.g, .slice v.lo.num.a v.lo.num.n v.lo.num.c, .bool v.lo.den.g, .slice v.lo.den.a v.lo.den.n v.lo.den.c, .bool v.hi.num.g, .slice v.hi.num.a v.hi.num.n v.hi.num.c, .bool v.hi.den.g, .slice v.hi.den.a v.hi.den.n v.hi.den.c] 41)).alloc (.cells #[.bool false, .slice none 0 0, .bool false, .slice none 0 0, .bool false, .slice none 0 0, .bool false, .slice none 0 0] 41)).cell? ⟨w.heap.size + 1, 2, none⟩ = some (.bool false) := by simp [go_sem]
      have k1_3 : ((w.alloc (.cells #[.bool v.lo.num.g, .slice v.lo.num.a v.lo.num.n v.lo.num.c, .bool v.lo.den.g, .slice v.lo.den.a v.lo.den.n v.lo.den.c, .bool v.hi.num.g, .slice v.hi.num.a v.hi.num.n v.hi.num.c, .bool v.hi.den.g, .slice v.hi.den.a v.hi.den.n v.hi.den.c] 41)).alloc (.cells #[.bool false, .slice none 0 0, .bool false, .slice none 0 0, .bool false, .slice none 0 0, .bool false, .slice none 0 0] 41)).cell? ⟨w.heap.size + 1, 3, none⟩ = some (.slice none 0 0) := by simp [go_sem]
      have k1_4 : ((w.alloc (.cells #[.bool v.lo.num.g, .slice v.lo.num.a v.lo.num.n v.lo.num.c, .bool v.lo.den.g, .slice v.lo.den.a v.lo.den.n v.lo.den.c, .bool v.hi.num.g, .slice v.hi.num.a v.hi.num.n v.hi.num.c, .bool v.hi.den.g, .slice v.hi.den.a v.hi.den.n v.hi.den.c] 41)).alloc (.cells #[.bool false, .slice none 0 0, .bool false, .slice none 0 0, .bool false, .slice none 0 0, .bool false, .slice none 0 0] 41)).cell? ⟨w.heap.size + 1, 4, none⟩ = some (.bool false) := by simp [go_sem]
      have k1_5 : ((w.alloc (.cells #[.bool v.lo.num.g, .slice v.lo.num.a v.lo.num.n v.lo.num.c, .bool v.lo.den.g, .slice v.lo.den.a v.lo.den.n v.lo.den.c, .bool v.hi.num.g, .slice v.hi.num.a v.hi.num.n v.hi.num.c, .bool v.hi.den.g, .slice v.hi.den.a v.hi.den.n v.hi.den.c] 41)).alloc (.cells #[.bool false, .slice none 0 0, .bool false, .slice none 0 0, .bool false, .slice none 0 0, .bool false, .slice none 0 0] 41)).cell? ⟨w.heap.size + 1, 5, none⟩ = some (.slice none 0 0) := by simp [go_sem]
      have k1_6 : ((w.alloc (.cells #[.bool v.lo.num.g, .slice v.lo.num.a v.lo.num.n v.lo.num.c, .bool v.lo.den.g, .slice v.lo.den.a v.lo.den.n v.lo.den.c, .bool v.hi.num.g, .slice v.hi.num.a v.hi.num.n v.hi.num.c, .bool v.hi.den.g, .slice v.hi.den.a v.hi.den.n v.hi.den.c] 41)).alloc (.cells #[.bool false, .slice none 0 0, .bool false, .slice none 0 0, .bool false, .slice none 0 0, .bool false, .slice none 0 0] 41)).cell? ⟨w.heap.size + 1, 6, none⟩ = some (.bool false) := by simp [go_sem]
      have k1_7 : ((w.alloc (.cells #[.bool v.lo.num.g, .slice v.lo.num.a v.lo.num.n v.lo.num.c, .bool v.lo.den.g, .slice v.lo.den.a v.lo.den.n v.lo.den.c, .bool v.hi.num.g, .slice v.hi.num.a v.hi.num.n v.hi.num.c, .bool v.hi.den.g, .slice v.hi.den.a v.hi.den.n v.hi.den.c] 41)).alloc (.cells #[.bool false, .slice none 0 0, .bool false, .slice none 0 0, .bool false, .slice none 0 0, .bool false, .slice none 0 0] 41)).cell? ⟨w.heap.size + 1, 7, none⟩ = some (.slice none 0 0) := by simp [go_sem]
      have z1 : ∀ o, ((w.alloc (.cells #[.bool v.lo.num.g, .slice v.lo.num.a v.lo.num.n v.lo.num.c, .bool v.lo.den.g, .slice v.lo.den.a v.lo.den.n v.lo.den.c, .bool v.hi.num.g, .slice v.hi.num.a v.hi.num.n v.hi.num.c, .bool v.hi.den.g, .slice v.hi.den.a v.hi.den.n v.hi.den.c] 41)).alloc (.cells #[.bool false, .slice none 0 0, .bool false, .slice none 0 0, .bool false, .slice none 0 0, .bool false, .slice none 0 0] 41)).frozen? ⟨w.heap.size + 1, o, none⟩ = false := fun o => by simp [go_sem]
      have H1w := hide ((unhide H1).later hb)
      have S1 := hide ((unhide J1).later hb)
      have szw0 : w.heap.size + 2 ≤ ((w.alloc (.cells #[.bool v.lo.num.g, .slice v.lo.num.a v.lo.num.n v.lo.num.c, .bool v.lo.den.g, .slice v.lo.den.a v.lo.den.n v.lo.den.c, .bool v.hi.num.g, .slice v.hi.num.a v.hi.num.n v.hi.num.c, .bool v.hi.den.g, .slice v.hi.den.a v.hi.den.n v.hi.den.c] 41)).alloc (.cells #[.bool false, .slice none 0 0, .bool false, .slice none 0 0, .bool false, .slice none 0 0, .bool false, .slice none 0 0] 41)).heap.size := by simp
      have HB := hide hb
      clear hb
      generalize ((w.alloc (.cells #[.bool v.lo.num.g, .slice v.lo.num.a v.lo.num.n v.lo.num.c, .bool v.lo.den.g, .slice v.lo.den.a v.lo.den.n v.lo.den.c, .bool v.hi.num.g, .slice v.hi.num.a v.hi.num.n v.hi.num.c, .bool v.hi.den.g, .slice v.hi.den.a v.hi.den.n v.hi.den.c] 41)).alloc (.cells #[.bool false, .slice none 0 0, .bool false, .slice none 0 0, .bool false, .slice none 0 0, .bool false, .slice none 0 0] 41)) = w0 at *
      go_region_held3 (fun w' => w'.cell? ⟨w.heap.size, 0, none⟩ = some (.bool v.lo.num.g) ∧ w'.cell? ⟨w.heap.size, 1, none⟩ = some (.slice v.lo.num.a v.lo.num.n v.lo.num.c) ∧ w'.cell? ⟨w.heap.size, 2, none⟩ = some (.bool v.lo.den.g) ∧ w'.cell? ⟨w.heap.size, 3, none⟩ = some (.slice v.lo.den.a v.lo.den.n v.lo.den.c) ∧ w'.cell? ⟨w.heap.size, 4, none⟩ = some (.bool v.hi.num.g) ∧ w'.cell? ⟨w.heap.size, 5, none⟩ = some (.slice v.hi.num.a v.hi.num.n v.hi.num.c) ∧ w'.cell? ⟨w.heap.size, 6, none⟩ = some (.bool v.hi.den.g) ∧ w'.cell? ⟨w.heap.size, 7, none⟩ = some (.slice v.hi.den.a v.hi.den.n v.hi.den.c)) (with_reducible (first | exact ⟨k0_0, k0_1, k0_2, k0_3, k0_4, k0_5, k0_6, k0_7⟩ | exact ⟨cd_other k0_0, cd_other k0_1, cd_other k0_2, cd_other k0_3, cd_other k0_4, cd_other k0_5, cd_other k0_6, cd_other k0_7⟩ | fail))
        (first
        | (go_at_call 105; refine (unhide G1 _ ?_).mono ?_; exact (unhide H1w).later (Below.refl _ _).drew; rintro e w1 ⟨rfl, hb⟩; have hbx : Below w0.heap.size w0 w1 := below_of_drew hb; have szw1 := hbx.size; replace z1 := fun o => frozen_later hbx (World.block_lt_of_cell? _ _ k1_0) (z1 o); replace k0_0 := cell_later hbx k0_0; replace k0_1 := cell_later hbx k0_1; replace k0_2 := cell_later hbx k0_2; replace k0_3 := cell_later hbx k0_3; replace k0_4 := cell_later hbx k0_4; replace k0_5 := cell_later hbx k0_5; replace k0_6 := cell_later hbx k0_6; replace k0_7 := cell_later hbx k0_7; replace k1_0 := cell_later hbx k1_0; replace k1_1 := cell_later hbx k1_1; replace k1_2 := cell_later hbx k1_2; replace k1_3 := cell_later hbx k1_3; replace k1_4 := cell_later hbx k1_4; replace k1_5 := cell_later hbx k1_5; replace k1_6 := cell_later hbx k1_6; replace k1_7 := cell_later hbx k1_7; replace H1w := hide ((unhide H1w).later hbx); replace S1 := hide ((unhide S1).later hbx); have HBr := hide hbx; clear hbx hb)
        | (go_at_call 95; refine (wholeS 0 _ (by omega) (by omega)).mono ?_; rintro e w2 ⟨z, lz1, lz2, rfl, hb, oz, az, m1, m2⟩; have hbx : Below w1.heap.size w1 w2 := hb; have szw2 := hbx.size; replace z1 := fun o => frozen_later hbx (World.block_lt_of_cell? _ _ k1_0) (z1 o); replace k0_0 := cell_later hbx k0_0; replace k0_1 := cell_later hbx k0_1; replace k0_2 := cell_later hbx k0_2; replace k0_3 := cell_later hbx k0_3; replace k0_4 := cell_later hbx k0_4; replace k0_5 := cell_later hbx k0_5; replace k0_6 := cell_later hbx k0_6; replace k0_7 := cell_later hbx k0_7; replace k1_0 := cell_later hbx k1_0; replace k1_1 := cell_later hbx k1_1; replace k1_2 := cell_later hbx k1_2; replace k1_3 := cell_later hbx k1_3; replace k1_4 := cell_later hbx k1_4; replace k1_5 := cell_later hbx k1_5; replace k1_6 := cell_later hbx k1_6; replace k1_7 := cell_later hbx k1_7; replace H1w := hide ((unhide H1w).later hbx); replace S1 := hide ((unhide S1).later hbx); have gz := isGood_zero (isQ_of az m1 m2); have GZ := hide (gz); have HBr := hide (below_on (unhide HBr) hbx); clear hbx hb oz az m1 m2 gz)
        | (go_at_call 106; refine (l3In_v v z d zQD _ ?_ ?_).mono ?_; exact (unhide S1).later (Below.refl _ _); exact (unhide GZ).later (Below.refl _ _); rintro e w3 ⟨hin, hb⟩; have hbx : Below w2.heap.size w2 w3 := hb; have szw3 := hbx.size; replace z1 := fun o => frozen_later hbx (World.block_lt_of_cell? _ _ k1_0) (z1 o); replace k0_0 := cell_later hbx k0_0; replace k0_1 := cell_later hbx k0_1; replace k0_2 := cell_later hbx k0_2; replace k0_3 := cell_later hbx k0_3; replace k0_4 := cell_later hbx k0_4; replace k0_5 := cell_later hbx k0_5; replace k0_6 := cell_later hbx k0_6; replace k0_7 := cell_later hbx k0_7; replace k1_0 := cell_later hbx k1_0; replace k1_1 := cell_later hbx k1_1; replace k1_2 := cell_later hbx k1_2; replace k1_3 := cell_later hbx k1_3; replace k1_4 := cell_later hbx k1_4; replace k1_5 := cell_later hbx k1_5; replace k1_6 := cell_later hbx k1_6; replace k1_7 := cell_later hbx k1_7; replace H1w := hide ((unhide H1w).later hbx); replace S1 := hide ((unhide S1).later hbx); replace GZ := hide ((unhide GZ).later hbx); rw [unhide EI] at hin; subst hin; have HBr := hide (below_on (unhide HBr) hbx); clear hbx hb))
      replace HB := hide (below_on (unhide HB) (unhide HBr))
      clear HBr
      have NZ : Hid (1 * nQ d.lo ≠ 0 ∧ 1 * nQ d.hi ≠ 0) := hide (by have hs := unhide HS; rw [Int.one_mul, Int.one_mul]; exact ⟨fun e => by rw [e, Int.zero_mul] at hs; omega, fun e => by rw [e, Int.mul_zero] at hs; omega⟩)
      go_upto_region 3 with fail
      have ne0_1 : w.heap.size ≠ w.heap.size + 1 := by omega
      go_region_held3 (fun w' => w'.cell? ⟨w.heap.size, 0, none⟩ = some (.bool v.lo.num.g) ∧ w'.cell? ⟨w.heap.size, 1, none⟩ = some (.slice v.lo.num.a v.lo.num.n v.lo.num.c) ∧ w'.cell? ⟨w.heap.size, 2, none⟩ = some (.bool v.lo.den.g) ∧ w'.cell? ⟨w.heap.size, 3, none⟩ = some (.slice v.lo.den.a v.lo.den.n v.lo.den.c) ∧ w'.cell? ⟨w.heap.size, 4, none⟩ = some (.bool v.hi.num.g) ∧ w'.cell? ⟨w.heap.size, 5, none⟩ = some (.slice v.hi.num.a v.hi.num.n v.hi.num.c) ∧ w'.cell? ⟨w.heap.size, 6, none⟩ = some (.bool v.hi.den.g) ∧ w'.cell? ⟨w.heap.size, 7, none⟩ = some (.slice v.hi.den.a v.hi.den.n v.hi.den.c)) (with_reducible (first | exact ⟨k0_0, k0_1, k0_2, k0_3, k0_4, k0_5, k0_6, k0_7⟩ | exact ⟨cd_other k0_0, cd_other k0_1, cd_other k0_2, cd_other k0_3, cd_other k0_4, cd_other k0_5, cd_other k0_6, cd_other k0_7⟩ | exact ⟨cs_other (cs_other (cs_other (cs_other (cs_other (cs_other (cs_other (cs_other (k0_0) ne0_1) ne0_1) ne0_1) ne0_1) ne0_1) ne0_1) ne0_1) ne0_1, cs_other (cs_other (cs_other (cs_other (cs_other (cs_other (cs_other (cs_other (k0_1) ne0_1) ne0_1) ne0_1) ne0_1) ne0_1) ne0_1) ne0_1) ne0_1, cs_other (cs_other (cs_other (cs_other (cs_other (cs_other (cs_other (cs_other (k0_2) ne0_1) ne0_1) ne0_1) ne0_1) ne0_1) ne0_1) ne0_1) ne0_1, cs_other (cs_other (cs_other (cs_other (cs_other (cs_other (cs_other (cs_other (k0_3) ne0_1) ne0_1) ne0_1) ne0_1) ne0_1) ne0_1) ne0_1) ne0_1, cs_other (cs_other (cs_other (cs_other (cs_other (cs_other (cs_other (cs_other (k0_4) ne0_1) ne0_1) ne0_1) ne0_1) ne0_1) ne0_1) ne0_1) ne0_1, cs_other (cs_other (cs_other (cs_other (cs_other (cs_other (cs_other (cs_other (k0_5) ne0_1) ne0_1) ne0_1) ne0_1) ne0_1) ne0_1) ne0_1) ne0_1, cs_other (cs_other (cs_other (cs_other (cs_other (cs_other (cs_other (cs_other (k0_6) ne0_1) ne0_1) ne0_1) ne0_1) ne0_1) ne0_1) ne0_1) ne0_1, cs_other (cs_other (cs_other (cs_other (cs_other (cs_other (cs_other (cs_other (k0_7) ne0_1) ne0_1) ne0_1) ne0_1) ne0_1) ne0_1) ne0_1) ne0_1⟩ | fail))
        (first
        | (go_at_call 99; refine (fitsSS ⟨x2, x1⟩ (lowN (1 * dQ d.hi) (1 * nQ d.hi)) (lowD (1 * dQ d.hi) (1 * nQ d.hi)) (lowN (1 * dQ d.lo) (1 * nQ d.lo)) (lowD (1 * dQ d.lo) (1 * nQ d.lo)) _ ?_ ?_ (lowD_pos (unhide NZ).2) (lowD_pos (unhide NZ).1)).mono ?_; exact (unhide Px2).later (Below.refl _ _); exact (unhide Px1).later (Below.refl _ _); rintro e w4 ⟨r2, dr, ok, rfl, hb, ov, hu⟩; have hbx : Below wd1.heap.size wd1 w4 := hb; have szw4 := hbx.size; replace z1 := fun o => frozen_later hbx (World.block_lt_of_cell? _ _ k1_0) (z1 o); replace k0_0 := cell_later hbx k0_0; replace k0_1 := cell_later hbx k0_1; replace k0_2 := cell_later hbx k0_2; replace k0_3 := cell_later hbx k0_3; replace k0_4 := cell_later hbx k0_4; replace k0_5 := cell_later hbx k0_5; replace k0_6 := cell_later hbx k0_6; replace k0_7 := cell_later hbx k0_7; replace k1_0 := cell_later hbx k1_0; replace k1_1 := cell_later hbx k1_1; replace k1_2 := cell_later hbx k1_2; replace k1_3 := cell_later hbx k1_3; replace k1_4 := cell_later hbx k1_4; replace k1_5 := cell_later hbx k1_5; replace k1_6 := cell_later hbx k1_6; replace k1_7 := cell_later hbx k1_7; replace H1w := hide ((unhide H1w).later hbx); replace S1 := hide ((unhide S1).later hbx); replace GZ := hide ((unhide GZ).later hbx); replace OQ2 := hide ((unhide OQ2).later hbx); replace Px2 := hide ((unhide Px2).later hbx); replace OQ1 := hide ((unhide OQ1).later hbx); replace Px1 := hide ((unhide Px1).later hbx); have UU := hide hu; have OV := hide (ov); have HBr := hide (below_on (unhide HBr) hbx); clear hbx hb ov hu)
        | (have chk := OQ1; clear chk; go_at_call 89; refine (divQS o1 v.lo 1 1 _ _ _ ?_ ?_ (unhide NZ).1 one_bd one_bd ((unhide J1).lo.kn.mono (by omega)) ((unhide J1).lo.kd.mono (by omega))).mono ?_; exact (unhide OQ1).later (Below.refl _ _); exact (unhide S1).lo.is.later (Below.refl _ _); rintro e wd1 ⟨x1, rfl, hb, ox, ax⟩; have hbx : Below wi1.heap.size wi1 wd1 := hb; have szwd1 := hbx.size; replace z1 := fun o => frozen_later hbx (World.block_lt_of_cell? _ _ k1_0) (z1 o); replace k0_0 := cell_later hbx k0_0; replace k0_1 := cell_later hbx k0_1; replace k0_2 := cell_later hbx k0_2; replace k0_3 := cell_later hbx k0_3; replace k0_4 := cell_later hbx k0_4; replace k0_5 := cell_later hbx k0_5; replace k0_6 := cell_later hbx k0_6; replace k0_7 := cell_later hbx k0_7; replace k1_0 := cell_later hbx k1_0; replace k1_1 := cell_later hbx k1_1; replace k1_2 := cell_later hbx k1_2; replace k1_3 := cell_later hbx k1_3; replace k1_4 := cell_later hbx k1_4; replace k1_5 := cell_later hbx k1_5; replace k1_6 := cell_later hbx k1_6; replace k1_7 := cell_later hbx k1_7; replace H1w := hide ((unhide H1w).later hbx); replace S1 := hide ((unhide S1).later hbx); replace GZ := hide ((unhide GZ).later hbx); replace OQ2 := hide ((unhide OQ2).later hbx); replace Px2 := hide ((unhide Px2).later hbx); replace OQ1 := hide ((unhide OQ1).later hbx); have q1 : IsQ wd1 x1 _ _ := ⟨ox.is, ax.is⟩; have Px1 := hide (q1); have HBr := hide (below_on (unhide HBr) hbx); clear hbx hb ox ax q1)
        | (have chk := Px2; clear chk; go_at_call 95; refine (wholeS 1 _ (by omega) (by omega)).mono ?_; rintro e wi1 ⟨o1, lo1, mo1, rfl, hb, oo, ao, m1, m2⟩; have hbx : Below wd2.heap.size wd2 wi1 := hb; have szwi1 := hbx.size; replace z1 := fun o => frozen_later hbx (World.block_lt_of_cell? _ _ k1_0) (z1 o); replace k0_0 := cell_later hbx k0_0; replace k0_1 := cell_later hbx k0_1; replace k0_2 := cell_later hbx k0_2; replace k0_3 := cell_later hbx k0_3; replace k0_4 := cell_later hbx k0_4; replace k0_5 := cell_later hbx k0_5; replace k0_6 := cell_later hbx k0_6; replace k0_7 := cell_later hbx k0_7; replace k1_0 := cell_later hbx k1_0; replace k1_1 := cell_later hbx k1_1; replace k1_2 := cell_later hbx k1_2; replace k1_3 := cell_later hbx k1_3; replace k1_4 := cell_later hbx k1_4; replace k1_5 := cell_later hbx k1_5; replace k1_6 := cell_later hbx k1_6; replace k1_7 := cell_later hbx k1_7; replace H1w := hide ((unhide H1w).later hbx); replace S1 := hide ((unhide S1).later hbx); replace GZ := hide ((unhide GZ).later hbx); replace OQ2 := hide ((unhide OQ2).later hbx); replace Px2 := hide ((unhide Px2).later hbx); have OQ1 := hide (isQ_of ao m1 m2); have HBr := hide (below_on (unhide HBr) hbx); clear hbx hb oo ao m1 m2)
        | (go_at_call 89; refine (divQS o2 v.hi 1 1 _ _ _ ?_ ?_ (unhide NZ).2 one_bd one_bd ((unhide J1).hi.kn.mono (by omega)) ((unhide J1).hi.kd.mono (by omega))).mono ?_; exact (unhide OQ2).later (Below.refl _ _); exact (unhide S1).hi.is.later (Below.refl _ _); rintro e wd2 ⟨x2, rfl, hb, ox, ax⟩; have hbx : Below wi2.heap.size wi2 wd2 := hb; have szwd2 := hbx.size; replace z1 := fun o => frozen_later hbx (World.block_lt_of_cell? _ _ k1_0) (z1 o); replace k0_0 := cell_later hbx k0_0; replace k0_1 := cell_later hbx k0_1; replace k0_2 := cell_later hbx k0_2; replace k0_3 := cell_later hbx k0_3; replace k0_4 := cell_later hbx k0_4; replace k0_5 := cell_later hbx k0_5; replace k0_6 := cell_later hbx k0_6; replace k0_7 := cell_later hbx k0_7; replace k1_0 := cell_later hbx k1_0; replace k1_1 := cell_later hbx k1_1; replace k1_2 := cell_later hbx k1_2; replace k1_3 := cell_later hbx k1_3; replace k1_4 := cell_later hbx k1_4; replace k1_5 := cell_later hbx k1_5; replace k1_6 := cell_later hbx k1_6; replace k1_7 := cell_later hbx k1_7; replace H1w := hide ((unhide H1w).later hbx); replace S1 := hide ((unhide S1).later hbx); replace GZ := hide ((unhide GZ).later hbx); replace OQ2 := hide ((unhide OQ2).later hbx); have q2 : IsQ wd2 x2 _ _ := ⟨ox.is, ax.is⟩; have Px2 := hide (q2); have HBr := hide (below_on (unhide HBr) hbx); clear hbx hb ox ax q2)
        | (go_at_call 95; refine (wholeS 1 _ (by omega) (by omega)).mono ?_; rintro e wi2 ⟨o2, lo2, mo2, rfl, hb, oo, ao, m1, m2⟩; have hbx : Below w3.heap.size w3 wi2 := below_of_drew hb; have szwi2 := hbx.size; replace z1 := fun o => frozen_later hbx (World.block_lt_of_cell? _ _ k1_0) (z1 o); replace k0_0 := cell_later hbx k0_0; replace k0_1 := cell_later hbx k0_1; replace k0_2 := cell_later hbx k0_2; replace k0_3 := cell_later hbx k0_3; replace k0_4 := cell_later hbx k0_4; replace k0_5 := cell_later hbx k0_5; replace k0_6 := cell_later hbx k0_6; replace k0_7 := cell_later hbx k0_7; replace k1_0 := cell_later hbx k1_0; replace k1_1 := cell_later hbx k1_1; replace k1_2 := cell_later hbx k1_2; replace k1_3 := cell_later hbx k1_3; replace k1_4 := cell_later hbx k1_4; replace k1_5 := cell_later hbx k1_5; replace k1_6 := cell_later hbx k1_6; replace k1_7 := cell_later hbx k1_7; replace H1w := hide ((unhide H1w).later hbx); replace S1 := hide ((unhide S1).later hbx); replace GZ := hide ((unhide GZ).later hbx); have OQ2 := hide (isQ_of ao m1 m2); have HBr := hide hbx; clear hbx hb oo ao m1 m2))
      replace HB := hide (below_on (unhide HB) (unhide HBr))
      clear HBr
      go_wp2
      refine bodyPost_ret (v := .tuple #[.agg #[.bool r2.lo.num.g, .slice r2.lo.num.a r2.lo.num.n r2.lo.num.c, .bool r2.lo.den.g, .slice r2.lo.den.a r2.lo.den.n r2.lo.den.c, .bool r2.hi.num.g, .slice r2.hi.num.a r2.hi.num.n r2.hi.num.c, .bool r2.hi.den.g, .slice r2.hi.den.a r2.hi.den.n r2.hi.den.c], .bool ok]) (by simp [results, Try.results45, go_sem, k1_0, k1_1, k1_2, k1_3, k1_4, k1_5, k1_6, k1_7]) rfl ?_
      exact retS_fin (v := r2) (d := dr) (R := w.heap.size + 1) (by omega) (unhide HB) (metS_but (w5 := w4) (v := r2) (G := w.heap.size + 1)) ((unhide OV).wide (by omega) (by omega)) (unhide UU)
    · have G1 := hide (fun w1 (k : AllAr w1 [(v.lo.num, d.lo.num), (v.lo.den, d.lo.den), (v.hi.num, d.hi.num), (v.hi.den, d.hi.den)]) => goodSS v d w1 k)
      rw [hg1] at G1
      have j1 := isGoodS_of (unhide H1) hg1
      have EI := hide ((inQ_zero hg1).trans hn)
      have J1 := hide j1
      rw [show (true && !true) = false from rfl]
      clear hg1 hn j1
      go_enter Try.func45, Try.ntmps45
      go_upto_region 1 with fail
      have hb : Below w.heap.size w ((w.alloc (.cells #[.bool v.lo.num.g, .slice v.lo.num.a v.lo.num.n v.lo.num.c, .bool v.lo.den.g, .slice v.lo.den.a v.lo.den.n v.lo.den.c, .bool v.hi.num.g, .slice v.hi.num.a v.hi.num.n v.hi.num.c, .bool v.hi.den.g, .slice v.hi.den.a v.hi.den.n v.hi.den.c] 41)).alloc (.cells #[.bool false, .slice none 0 0, .bool false, .slice none 0 0, .bool false, .slice none 0 0, .bool false, .slice none 0 0] 41)) := (((Below.refl _ _).alloc (by simp) _).alloc (by simp) _)
      have k0_0 : ((w.alloc (.cells #[.bool v.lo.num.g, .slice v.lo.num.a v.lo.num.n v.lo.num.c, .bool v.lo.den.g, .slice v.lo.den.a v.lo.den.n v.lo.den.c, .bool v.hi.num.g, .slice v.hi.num.a v.hi.num.n v.hi.num.c, .bool v.hi.den.g, .slice v.hi.den.a v.hi.den.n v.hi.den.c] 41)).alloc (.cells #[.bool false, .slice none 0 0, .bool false, .slice none 0 0, .bool false, .slice none 0 0, .bool false, .slice none 0 0] 41)).cell? ⟨w.heap.size, 0, none⟩ = some (.bool v.lo.num.g) := by simp [go_sem]
      have k0_1 : ((w.alloc (.cells #[.bool v.lo.num.g, .slice v.lo.num.a v.lo.num.n v.lo.num.c, .bool v.lo.den.g, .slice v.lo.den.a v.lo.den.n v.lo.den.c, .bool v.hi.num.g, .slice v.hi.num.a v.hi.num.n v.hi.num.c, .bool v.hi.den.g, .slice v.hi.den.a v.hi.den.n v.hi.den.c] 41)).alloc (.cells #[.bool false, .slice none 0 0, .bool false, .slice none 0 0, .bool false, .slice none 0 0, .bool false, .slice none 0 0] 41)).cell? ⟨w.heap.size, 1, none⟩ = some (.slice v.lo.num.a v.lo.num.n v.lo.num.c) := by simp [go_sem]
      have k0_2 : ((w.alloc (.cells #[.bool v.lo.num.g, .slice v.lo.num.a v.lo.num.n v.lo.num.c, .bool v.lo.den.g, .slice v.lo.den.a v.lo.den.n v.lo.den.c, .bool v.hi.num.g, .slice v.hi.num.a v.hi.num.n v.hi.num.c, .bool v.hi.den.g, .slice v.hi.den.a v.hi.den.n v.hi.den.c] 41)).alloc (.cells #[.bool false, .slice none 0 0, .bool false, .slice none 0 0, .bool false, .slice none 0 0, .bool false, .slice none 0 0] 41)).cell? ⟨w.heap.size, 2, none⟩ = some (.bool v.lo.den.g) := by simp [go_sem]
      have k0_3 : ((w.alloc (.cells #[.bool v.lo.num.g, .slice v.lo.num.a v.lo.num.n v.lo.num.c, .bool v.lo.den.g, .slice v.lo.den.a v.lo.den.n v.lo.den.c, .bool v.hi.num.g, .slice v.hi.num.a v.hi.num.n v.hi.num.c, .bool v.hi.den.g, .slice v.hi.den.a v.hi.den.n v.hi.den.c] 41)).alloc (.cells #[.bool false, .slice none 0 0, .bool false, .slice none 0 0, .bool false, .slice none 0 0, .bool false, .slice none 0 0] 41)).cell? ⟨w.heap.size, 3, none⟩ = some (.slice v.lo.den.a v.lo.den.n v.lo.den.c) := by simp [go_sem]
      have k0_4 : ((w.alloc (.cells #[.bool v.lo.num.g, .slice v.lo.num.a v.lo.num.n v.lo.num.c, .bool v.lo.den.g, .slice v.lo.den.a v.lo.den.n v.lo.den.c, .bool v.hi.num.g, .slice v.hi.num.a v.hi.num.n v.hi.num.c, .bool v.hi.den.g, .slice v.hi.den.a v.hi.den.n v.hi.den.c] 41)).alloc (.cells #[.bool false, .slice none 0 0, .bool false, .slice none 0 0, .bool false, .slice none 0 0, .bool false, .slice none 0 0] 41)).cell? ⟨w.heap.size, 4, none⟩ = some (.bool v.hi.num.g) := by simp [go_sem]
      have k0_5 : ((w.alloc (.cells #[.bool v.lo.num.g, .slice v.lo.num.a v.lo.num.n v.lo.num.c, .bool v.lo.den.g, .slice v.lo.den.a v.lo.den.n v.lo.den.c, .bool v.hi.num.g, .slice v.hi.num.a v.hi.num.n v.hi.num.c, .bool v.hi.den.g, .slice v.hi.den.a v.hi.den.n v.hi.den.c] 41)).alloc (.cells #[.bool false, .slice none 0 0, .bool false, .slice none 0 0, .bool false, .slice none 0 0, .bool false, .slice none 0 0] 41)).cell? ⟨w.heap.size, 5, none⟩ = some (.slice v.hi.num.a v.hi.num.n v.hi.num.c) := by simp [go_sem]
      have k0_6 : ((w.alloc (.cells #[.bool v.lo.num.g, .slice v.lo.num.a v.lo.num.n v.lo.num.c, .bool v.lo.den.g, .slice v.lo.den.a v.lo.den.n v.lo.den.c, .bool v.hi.num.g, .slice v.hi.num.a v.hi.num.n v.hi.num.c, .bool v.hi.den.g, .slice v.hi.den.a v.hi.den.n v.hi.den.c] 41)).alloc (.cells #[.bool false, .slice none 0 0, .bool false, .slice none 0 0, .bool false, .slice none 0 0, .bool false, .slice none 0 0] 41)).cell? ⟨w.heap.size, 6, none⟩ = some (.bool v.hi.den.g) := by simp [go_sem]
      have k0_7 : ((w.alloc (.cells #[.bool v.lo.num.g, .slice v.lo.num.a v.lo.num.n v.lo.num.c, .bool v.lo.den.g, .slice v.lo.den.a v.lo.den.n v.lo.den.c, .bool v.hi.num.g, .slice v.hi.num.a v.hi.num.n v.hi.num.c, .bool v.hi.den.g, .slice v.hi.den.a v.hi.den.n v.hi.den.c] 41)).alloc (.cells #[.bool false, .slice none 0 0, .bool false, .slice none 0 0, .bool false, .slice none 0 0, .bool false, .slice none 0 0] 41)).cell? ⟨w.heap.size, 7, none⟩ = some (.slice v.hi.den.a v.hi.den.n v.hi.den.c) := by simp [go_sem]
      have k1_0 : ((w.alloc (.cells #[.bool v.lo.num.g, .slice v.lo.num.a v.lo.num.n v.lo.num.c, .bool v.lo.den.g, .slice v.lo.den.a v.lo.den.n v.lo.den.c, .bool v.hi.num.g, .slice v.hi.num.a v.hi.num.n v.hi.num.c, .bool v.hi.den.g, .slice v.hi.den.a v.hi.den.n v.hi.den.c] 41)).alloc (.cells #[.bool false, .slice none 0 0, .bool false, .slice none 0 0, .bool false, .slice none 0 0, .bool false, .slice none 0 0] 41)).cell? ⟨w.heap.size + 1, 0, none⟩ = some (.bool false) := by simp [go_sem]
      have k1_1 : ((w.alloc (.cells #[.bool v.lo.num.g, .slice v.lo.num.a v.lo.num.n v.lo.num.c, .bool v.lo.den.g, .slice v.lo.den.a v.lo.den.n v.lo.den.c, .bool v.hi.num.g, .slice v.hi.num.a v.hi.num.n v.hi.num.c, .bool v.hi.den.g, .slice v.hi.den.a v.hi.den.n v.hi.den.c] 41)).alloc (.cells #[.bool false, .slice none 0 0, .bool false, .slice none 0 0, .bool false, .slice none 0 0, .bool false, .slice none 0 0] 41)).cell? ⟨w.heap.size + 1, 1, none⟩ = some (.slice none 0 0) := by simp [go_sem]
      have k1_2 : ((w.alloc (.cells #[.bool v.lo.num.g, .slice v.lo.num.a v.lo.num.n v.lo.num.c, .bool v.lo.den.g, .slice v.lo.den.a v.lo.den.n v.lo.den.c, .bool v.hi.num.g, .slice v.hi.num.a v.hi.num.n v.hi.num.c, .bool v.hi.den.g, .slice v.hi.den.a v.hi.den.n v.hi.den.c] 41)).alloc (.cells #[.bool false, .slice none 0 0, .bool false, .slice none 0 0, .bool false, .slice none 0 0, .bool false, .slice none 0 0] 41)).cell? ⟨w.heap.size + 1, 2, none⟩ = some (.bool false) := by simp [go_sem]
      have k1_3 : ((w.alloc (.cells #[.bool v.lo.num.g, .slice v.lo.num.a v.lo.num.n v.lo.num.c, .bool v.lo.den.g, .slice v.lo.den.a v.lo.den.n v.lo.den.c, .bool v.hi.num.g, .slice v.hi.num.a v.hi.num.n v.hi.num.c, .bool v.hi.den.g, .slice v.hi.den.a v.hi.den.n v.hi.den.c] 41)).alloc (.cells #[.bool false, .slice none 0 0, .bool false, .slice none 0 0, .bool false, .slice none 0 0, .bool false, .slice none 0 0] 41)).cell? ⟨w.heap.size + 1, 3, none⟩ = some (.slice none 0 0) := by simp [go_sem]
      have k1_4 : ((w.alloc (.cells #[.bool v.lo.num.g, .slice v.lo.num.a v.lo.num.n v.lo.num.c, .bool v.lo.den.g, .slice v.lo.den.a v.lo.den.n v.lo.den.c, .bool v.hi.num.g, .slice v.hi.num.a v.hi.num.n v.hi.num.c, .bool v.hi.den.g, .slice v.hi.den.a v.hi.den.n v.hi.den.c] 41)).alloc (.cells #[.bool false, .slice none 0 0, .bool false, .slice none 0 0, .bool false, .slice none 0 0, .bool false, .slice none 0 0] 41)).cell? ⟨w.heap.size + 1, 4, none⟩ = some (.bool false) := by simp [go_sem]
      have k1_5 : ((w.alloc (.cells #[.bool v.lo.num.g, .slice v.lo.num.a v.lo.num.n v.lo.num.c, .bool v.lo.den.g, .slice v.lo.den.a v.lo.den.n v.lo.den.c, .bool v.hi.num.g, .slice v.hi.num.a v.hi.num.n v.hi.num.c, .bool v.hi.den.g, .slice v.hi.den.a v.hi.den.n v.hi.den.c] 41)).alloc (.cells #[.bool false, .slice none 0 0, .bool false, .slice none 0 0, .bool false, .slice none 0 0, .bool false, .slice none 0 0] 41)).cell? ⟨w.heap.size + 1, 5, none⟩ = some (.slice none 0 0) := by simp [go_sem]
      have k1_6 : ((w.alloc (.cells #[.bool v.lo.num.g, .slice v.lo.num.a v.lo.num.n v.lo.num.c, .bool v.lo.den.g, .slice v.lo.den.a v.lo.den.n v.lo.den.c, .bool v.hi.num.g, .slice v.hi.num.a v.hi.num.n v.hi.num.c, .bool v.hi.den.g, .slice v.hi.den.a v.hi.den.n v.hi.den.c] 41)).alloc (.cells #[.bool false, .slice none 0 0, .bool false, .slice none 0 0, .bool false, .slice none 0 0, .bool false, .slice none 0 0] 41)).cell? ⟨w.heap.size + 1, 6, none⟩ = some (.bool false) := by simp [go_sem]
      have k1_7 : ((w.alloc (.cells #[.bool v.lo.num.g, .slice v.lo.num.a v.lo.num.n v.lo.num.c, .bool v.lo.den.g, .slice v.lo.den.a v.lo.den.n v.lo.den.c, .bool v.hi.num.g, .slice v.hi.num.a v.hi.num.n v.hi.num.c, .bool v.hi.den.g, .slice v.hi.den.a v.hi.den.n v.hi.den.c] 41)).alloc (.cells #[.bool false, .slice none 0 0, .bool false, .slice none 0 0, .bool false, .slice none 0 0, .bool false, .slice none 0 0] 41)).cell? ⟨w.heap.size + 1, 7, none⟩ = some (.slice none 0 0) := by simp [go_sem]
      have z1 : ∀ o, ((w.alloc (.cells #[.bool v.lo.num.g, .slice v.lo.num.a v.lo.num.n v.lo.num.c, .bool v.lo.den.g, .slice v.lo.den.a v.lo.den.n v.lo.den.c, .bool v.hi.num.g, .slice v.hi.num.a v.hi.num.n v.hi.num.c, .bool v.hi.den.g, .slice v.hi.den.a v.hi.den.n v.hi.den.c] 41)).alloc (.cells #[.bool false, .slice none 0 0, .bool false, .slice none 0 0, .bool false, .slice none 0 0, .bool false, .slice none 0 0] 41)).frozen? ⟨w.heap.size + 1, o, none⟩ = false := fun o => by simp [go_sem]
      have H1w := hide ((unhide H1).later hb)
      have S1 := hide ((unhide J1).later hb)
      have szw0 : w.heap.size + 2 ≤ ((w.alloc (.cells #[.bool v.lo.num.g, .slice v.lo.num.a v.lo.num.n v.lo.num.c, .bool v.lo.den.g, .slice v.lo.den.a v.lo.den.n v.lo.den.c, .bool v.hi.num.g, .slice v.hi.num.a v.hi.num.n v.hi.num.c, .bool v.hi.den.g, .slice v.hi.den.a v.hi.den.n v.hi.den.c] 41)).alloc (.cells #[.bool false, .slice none 0 0, .bool false, .slice none 0 0, .bool false, .slice none 0 0, .bool false, .slice none 0 0] 41)).heap.size := by simp
      have HB := hide hb
      clear hb
      generalize ((w.alloc (.cells #[.bool v.lo.num.g, .slice v.lo.num.a v.lo.num.n v.lo.num.c, .bool v.lo.den.g, .slice v.lo.den.a v.lo.den.n v.lo.den.c, .bool v.hi.num.g, .slice v.hi.num.a v.hi.num.n v.hi.num.c, .bool v.hi.den.g, .slice v.hi.den.a v.hi.den.n v.hi.den.c] 41)).alloc (.cells #[.bool false, .slice none 0 0, .bool false, .slice none 0 0, .bool false, .slice none 0 0, .bool false, .slice none 0 0] 41)) = w0 at *
      go_region_held3 (fun w' => w'.cell? ⟨w.heap.size, 0, none⟩ = some (.bool v.lo.num.g) ∧ w'.cell? ⟨w.heap.size, 1, none⟩ = some (.slice v.lo.num.a v.lo.num.n v.lo.num.c) ∧ w'.cell? ⟨w.heap.size, 2, none⟩ = some (.bool v.lo.den.g) ∧ w'.cell? ⟨w.heap.size, 3, none⟩ = some (.slice v.lo.den.a v.lo.den.n v.lo.den.c) ∧ w'.cell? ⟨w.heap.size, 4, none⟩ = some (.bool v.hi.num.g) ∧ w'.cell? ⟨w.heap.size, 5, none⟩ = some (.slice v.hi.num.a v.hi.num.n v.hi.num.c) ∧ w'.cell? ⟨w.heap.size, 6, none⟩ = some (.bool v.hi.den.g) ∧ w'.cell? ⟨w.heap.size, 7, none⟩ = some (.slice v.hi.den.a v.hi.den.n v.hi.den.c)) (with_reducible (first | exact ⟨k0_0, k0_1, k0_2, k0_3, k0_4, k0_5, k0_6, k0_7⟩ | exact ⟨cd_other k0_0, cd_other k0_1, cd_other k0_2, cd_other k0_3, cd_other k0_4, cd_other k0_5, cd_other k0_6, cd_other k0_7⟩ | fail))
        (first
        | (go_at_call 105; refine (unhide G1 _ ?_).mono ?_; exact (unhide H1w).later (Below.refl _ _).drew; rintro e w1 ⟨rfl, hb⟩; have hbx : Below w0.heap.size w0 w1 := below_of_drew hb; have szw1 := hbx.size; replace z1 := fun o => frozen_later hbx (World.block_lt_of_cell? _ _ k1_0) (z1 o); replace k0_0 := cell_later hbx k0_0; replace k0_1 := cell_later hbx k0_1; replace k0_2 := cell_later hbx k0_2; replace k0_3 := cell_later hbx k0_3; replace k0_4 := cell_later hbx k0_4; replace k0_5 := cell_later hbx k0_5; replace k0_6 := cell_later hbx k0_6; replace k0_7 := cell_later hbx k0_7; replace k1_0 := cell_later hbx k1_0; replace k1_1 := cell_later hbx k1_1; replace k1_2 := cell_later hbx k1_2; replace k1_3 := cell_later hbx k1_3; replace k1_4 := cell_later hbx k1_4; replace k1_5 := cell_later hbx k1_5; replace k1_6 := cell_later hbx k1_6; replace k1_7 := cell_later hbx k1_7; replace H1w := hide ((unhide H1w).later hbx); replace S1 := hide ((unhide S1).later hbx); have HBr := hide hbx; clear hbx hb)
        | (go_at_call 95; refine (wholeS 0 _ (by omega) (by omega)).mono ?_; rintro e w2 ⟨z, lz1, lz2, rfl, hb, oz, az, m1, m2⟩; have hbx : Below w1.heap.size w1 w2 := hb; have szw2 := hbx.size; replace z1 := fun o => frozen_later hbx (World.block_lt_of_cell? _ _ k1_0) (z1 o); replace k0_0 := cell_later hbx k0_0; replace k0_1 := cell_later hbx k0_1; replace k0_2 := cell_later hbx k0_2; replace k0_3 := cell_later hbx k0_3; replace k0_4 := cell_later hbx k0_4; replace k0_5 := cell_later hbx k0_5; replace k0_6 := cell_later hbx k0_6; replace k0_7 := cell_later hbx k0_7; replace k1_0 := cell_later hbx k1_0; replace k1_1 := cell_later hbx k1_1; replace k1_2 := cell_later hbx k1_2; replace k1_3 := cell_later hbx k1_3; replace k1_4 := cell_later hbx k1_4; replace k1_5 := cell_later hbx k1_5; replace k1_6 := cell_later hbx k1_6; replace k1_7 := cell_later hbx k1_7; replace H1w := hide ((unhide H1w).later hbx); replace S1 := hide ((unhide S1).later hbx); have gz := isGood_zero (isQ_of az m1 m2); have GZ := hide (gz); have HBr := hide (below_on (unhide HBr) hbx); clear hbx hb oz az m1 m2 gz)
        | (go_at_call 106; refine (l3In_v v z d zQD _ ?_ ?_).mono ?_; exact (unhide S1).later (Below.refl _ _); exact (unhide GZ).later (Below.refl _ _); rintro e w3 ⟨hin, hb⟩; have hbx : Below w2.heap.size w2 w3 := hb; have szw3 := hbx.size; replace z1 := fun o => frozen_later hbx (World.block_lt_of_cell? _ _ k1_0) (z1 o); replace k0_0 := cell_later hbx k0_0; replace k0_1 := cell_later hbx k0_1; replace k0_2 := cell_later hbx k0_2; replace k0_3 := cell_later hbx k0_3; replace k0_4 := cell_later hbx k0_4; replace k0_5 := cell_later hbx k0_5; replace k0_6 := cell_later hbx k0_6; replace k0_7 := cell_later hbx k0_7; replace k1_0 := cell_later hbx k1_0; replace k1_1 := cell_later hbx k1_1; replace k1_2 := cell_later hbx k1_2; replace k1_3 := cell_later hbx k1_3; replace k1_4 := cell_later hbx k1_4; replace k1_5 := cell_later hbx k1_5; replace k1_6 := cell_later hbx k1_6; replace k1_7 := cell_later hbx k1_7; replace H1w := hide ((unhide H1w).later hbx); replace S1 := hide ((unhide S1).later hbx); replace GZ := hide ((unhide GZ).later hbx); rw [unhide EI] at hin; subst hin; have HBr := hide (below_on (unhide HBr) hbx); clear hbx hb))
      replace HB := hide (below_on (unhide HB) (unhide HBr))
      clear HBr
      go_wp2
      refine bodyPost_ret (v := .tuple #[.agg #[.bool false, .slice none 0 0, .bool false, .slice none 0 0, .bool false, .slice none 0 0, .bool false, .slice none 0 0], .bool false]) (by simp [results, Try.results45, go_sem, k1_0, k1_1, k1_2, k1_3, k1_4, k1_5, k1_6, k1_7]) rfl ?_
      exact retS_fin (v := (⟨⟨⟨false, none, 0, 0⟩, ⟨false, none, 0, 0⟩⟩, ⟨⟨false, none, 0, 0⟩, ⟨false, none, 0, 0⟩⟩⟩ : SV)) (d := (⟨⟨⟨false, []⟩, ⟨false, []⟩⟩, ⟨⟨false, []⟩, ⟨false, []⟩⟩⟩ : SD)) (R := w.heap.size + 1) (by omega) (unhide HB) (metS_but (w5 := w3) (v := (⟨⟨⟨false, none, 0, 0⟩, ⟨false, none, 0, 0⟩⟩, ⟨⟨false, none, 0, 0⟩, ⟨false, none, 0, 0⟩⟩⟩ : SV)) (G := w.heap.size + 1)) (zeroS _ _ _) (ansS_none _ _ _ _)
end Go.Proofs.Ytlmeokeanihhoaa
namespace Go.Proofs.Ytlmeokeanihhoaa
open Go.RowKit
set_option linter.unusedVariables false
set_option maxRecDepth 100000
set_option linter.unusedSimpArgs false

structure TlawInvS (w wx : World) (v0 : SV) (d0 : SD) : Prop where
  bel : Below w.heap.size w wx
  x0_0 : wx.cell? ⟨w.heap.size, 0, none⟩ = some (.bool v0.lo.num.g)
  x0_1 : wx.cell? ⟨w.heap.size, 1, none⟩ = some (.slice v0.lo.num.a v0.lo.num.n v0.lo.num.c)
  x0_2 : wx.cell? ⟨w.heap.size, 2, none⟩ = some (.bool v0.lo.den.g)
  x0_3 : wx.cell? ⟨w.heap.size, 3, none⟩ = some (.slice v0.lo.den.a v0.lo.den.n v0.lo.den.c)
  x0_4 : wx.cell? ⟨w.heap.size, 4, none⟩ = some (.bool v0.hi.num.g)
  x0_5 : wx.cell? ⟨w.heap.size, 5, none⟩ = some (.slice v0.hi.num.a v0.hi.num.n v0.hi.num.c)
  x0_6 : wx.cell? ⟨w.heap.size, 6, none⟩ = some (.bool v0.hi.den.g)
  x0_7 : wx.cell? ⟨w.heap.size, 7, none⟩ = some (.slice v0.hi.den.a v0.hi.den.n v0.hi.den.c)
  s0 : AllSl wx [(v0.lo.num, d0.lo.num), (v0.lo.den, d0.lo.den), (v0.hi.num, d0.hi.num), (v0.hi.den, d0.hi.den)]
theorem TlawInvS.later {w wx wy : World} {v0 : SV} {d0 : SD} (h : TlawInvS w wx v0 d0) (hb : Below wx.heap.size wx wy) : TlawInvS w wy v0 d0 :=
  ⟨below_on h.bel hb, cell_later hb h.x0_0, cell_later hb h.x0_1, cell_later hb h.x0_2, cell_later hb h.x0_3, cell_later hb h.x0_4, cell_later hb h.x0_5, cell_later hb h.x0_6, cell_later hb h.x0_7, h.s0.later hb⟩
theorem TlawInvS.but {w wx wy : World} {v0 : SV} {d0 : SD} {lo hi : Nat} (h : TlawInvS w wx v0 d0) (hb : But lo hi wx wy) (hl : w.heap.size + 1 ≤ lo) (hx0 : AllSl w [(v0.lo.num, d0.lo.num), (v0.lo.den, d0.lo.den), (v0.hi.num, d0.hi.num), (v0.hi.den, d0.hi.den)]) : TlawInvS w wy v0 d0 := by
  have hB := hb.below h.bel (by omega) h.bel.size
  exact ⟨hB, hb.cell h.x0_0 (by omega), hb.cell h.x0_1 (by omega), hb.cell h.x0_2 (by omega), hb.cell h.x0_3 (by omega), hb.cell h.x0_4 (by omega), hb.cell h.x0_5 (by omega), hb.cell h.x0_6 (by omega), hb.cell h.x0_7 (by omega), hx0.later hB⟩
theorem TlawInvS.start (w : World) (v0 : SV) (d0 : SD) (t0 : TypeId) (hx0 : AllSl w [(v0.lo.num, d0.lo.num), (v0.lo.den, d0.lo.den), (v0.hi.num, d0.hi.num), (v0.hi.den, d0.hi.den)]) : TlawInvS w (w.alloc (.cells #[.bool v0.lo.num.g, .slice v0.lo.num.a v0.lo.num.n v0.lo.num.c, .bool v0.lo.den.g, .slice v0.lo.den.a v0.lo.den.n v0.lo.den.c, .bool v0.hi.num.g, .slice v0.hi.num.a v0.hi.num.n v0.hi.num.c, .bool v0.hi.den.g, .slice v0.hi.den.a v0.hi.den.n v0.hi.den.c] t0)) v0 d0 := by
  have hb : Below w.heap.size w (w.alloc (.cells #[.bool v0.lo.num.g, .slice v0.lo.num.a v0.lo.num.n v0.lo.num.c, .bool v0.lo.den.g, .slice v0.lo.den.a v0.lo.den.n v0.lo.den.c, .bool v0.hi.num.g, .slice v0.hi.num.a v0.hi.num.n v0.hi.num.c, .bool v0.hi.den.g, .slice v0.hi.den.a v0.hi.den.n v0.hi.den.c] t0)) := (Below.refl _ _).alloc (Nat.le_refl _) _
  exact ⟨hb, by simp [go_sem], by simp [go_sem], by simp [go_sem], by simp [go_sem], by simp [go_sem], by simp [go_sem], by simp [go_sem], by simp [go_sem], hx0.later hb⟩

set_option maxHeartbeats 1000000 in
theorem lawInvS_out0 (v0 : SV) (w : World) (m0 : v0.lo.num.n ≤ maxLen) (m1 : v0.lo.den.n ≤ maxLen) (m2 : v0.hi.num.n ≤ maxLen) (m3 : v0.hi.den.n ≤ maxLen) (h0 : 0 ≤ 1048576) (h : 1048576 < v0.lo.num.n + v0.lo.den.n + v0.hi.num.n + v0.hi.den.n) :
    Calls Try.prog 11 #[.agg #[.bool v0.lo.num.g, .slice v0.lo.num.a v0.lo.num.n v0.lo.num.c, .bool v0.lo.den.g, .slice v0.lo.den.a v0.lo.den.n v0.lo.den.c, .bool v0.hi.num.g, .slice v0.hi.num.a v0.hi.num.n v0.hi.num.c, .bool v0.hi.den.g, .slice v0.hi.den.a v0.hi.den.n v0.hi.den.c]] w fun e w' => e = .returned (.bool true) ∧ Below w.heap.size w w' := by
  go_enter Try.func11, Try.ntmps11
  go_wp2_with fail
  refine (szS_out v0 _ _ (by omega) (by omega) m0 m1 m2 m3 (by omega)).mono ?_
  rintro e w1 ⟨rfl, hb⟩
  have HB := hide (ba hb)
  clear hb
  go_wp2
  go_ret
  exact ⟨rfl, unhide HB⟩

set_option maxRecDepth 100000 in
set_option maxHeartbeats 16000000 in
theorem lawInvS_in (v0 : SV) (d0 : SD) (w : World) (hx0 : AllSl w [(v0.lo.num, d0.lo.num), (v0.lo.den, d0.lo.den), (v0.hi.num, d0.hi.num), (v0.hi.den, d0.hi.den)])  (h : v0.lo.num.n + v0.lo.den.n + v0.hi.num.n + v0.hi.den.n ≤ 1048576) :
    Calls Try.prog 11 #[.agg #[.bool v0.lo.num.g, .slice v0.lo.num.a v0.lo.num.n v0.lo.num.c, .bool v0.lo.den.g, .slice v0.lo.den.a v0.lo.den.n v0.lo.den.c, .bool v0.hi.num.g, .slice v0.hi.num.a v0.hi.num.n v0.hi.num.c, .bool v0.hi.den.g, .slice v0.hi.den.a v0.hi.den.n v0.hi.den.c]] w fun e w' => e = .returned (.bool true) ∧ Below w.heap.size w w' := by
  have HX0 := hide hx0
  clear hx0
  have l0 : v0.lo.num.n ≤ 1048576 := by omega
  have lm0 : v0.lo.num.n ≤ maxLen := by unfold maxLen; omega
  have l1 : v0.lo.den.n ≤ 1048576 := by omega
  have lm1 : v0.lo.den.n ≤ maxLen := by unfold maxLen; omega
  have l2 : v0.hi.num.n ≤ 1048576 := by omega
  have lm2 : v0.hi.num.n ≤ maxLen := by unfold maxLen; omega
  have l3 : v0.hi.den.n ≤ 1048576 := by omega
  have lm3 : v0.hi.den.n ≤ maxLen := by unfold maxLen; omega
  have hd0 : ¬ ((1048576 : Int) - (v0.lo.num.n : Int) - (v0.lo.den.n : Int) - (v0.hi.num.n : Int) - (v0.hi.den.n : Int) < 0) := by omega
  obtain ⟨U, HU⟩ : ∃ U : SD → Bool → Prop, Hid (U = AnsS (gS d0 && !hN d0) (lowN (1 * dQ d0.hi) (1 * nQ d0.hi)) (lowD (1 * dQ d0.hi) (1 * nQ d0.hi)) (lowN (1 * dQ d0.lo) (1 * nQ d0.lo)) (lowD (1 * dQ d0.lo) (1 * nQ d0.lo))) := ⟨_, hide rfl⟩
  have US : Hid (∀ d ok d' ok', U d ok → U d' ok' → d = d' ∧ ok = ok') := hide (by rw [unhide HU]; exact fun d ok d' ok' h k => h.same k)
  have UL : Hid (∀ d ok, U d ok → d.lo.num.xs.length ≤ 40 ∧ d.lo.den.xs.length ≤ 40 ∧ d.hi.num.xs.length ≤ 40 ∧ d.hi.den.xs.length ≤ 40) := hide (by rw [unhide HU]; exact fun d ok h => h.lens)
  have CS : Hid (∀ (q0 : SV) (w : World), AllAr w [(q0.lo.num, d0.lo.num), (q0.lo.den, d0.lo.den), (q0.hi.num, d0.hi.num), (q0.hi.den, d0.hi.den)] → Calls Try.prog 45 #[.agg #[.bool q0.lo.num.g, .slice q0.lo.num.a q0.lo.num.n q0.lo.num.c, .bool q0.lo.den.g, .slice q0.lo.den.a q0.lo.den.n q0.lo.den.c, .bool q0.hi.num.g, .slice q0.hi.num.a q0.hi.num.n q0.hi.num.c, .bool q0.hi.den.g, .slice q0.hi.den.a q0.hi.den.n q0.hi.den.c]] w (RetS w U)) := hide (by rw [unhide HU]; exact fun q0 w h0 => InvSS q0 d0 w h0)
  have CI : Hid (∀ (q0 : SV) (w : World), AllAr w [(q0.lo.num, d0.lo.num), (q0.lo.den, d0.lo.den), (q0.hi.num, d0.hi.num), (q0.hi.den, d0.hi.den)] → Calls Try.prog 46 #[.agg #[.bool q0.lo.num.g, .slice q0.lo.num.a q0.lo.num.n q0.lo.num.c, .bool q0.lo.den.g, .slice q0.lo.den.a q0.lo.den.n q0.lo.den.c, .bool q0.hi.num.g, .slice q0.hi.num.a q0.hi.num.n q0.hi.num.c, .bool q0.hi.den.g, .slice q0.hi.den.a q0.hi.den.n q0.hi.den.c]] w (RetS w U)) := hide (by rw [unhide HU]; exact fun q0 w h0 => InvSI q0 d0 w h0)
  clear HU
  go_enter Try.func11, Try.ntmps11
  go_wp2_with fail
  refine (szS_in v0 _ _ (by omega) (by omega) (by omega)).mono ?_
  rintro e w1 ⟨rfl, hb⟩
  have T := hide ((TlawInvS.start w v0 d0 38 (unhide HX0)).later hb)
  have z : w.heap.size + 1 ≤ w1.heap.size := by have := hb.size; simp at this; omega
  clear hb
  have p0 := (unhide T).x0_0
  have p1 := (unhide T).x0_1
  have p2 := (unhide T).x0_2
  have p3 := (unhide T).x0_3
  have p4 := (unhide T).x0_4
  have p5 := (unhide T).x0_5
  have p6 := (unhide T).x0_6
  have p7 := (unhide T).x0_7
  go_wp2_with fail
  refine (toS_at v0 d0 _ (unhide T).s0 l0 l1 l2 l3).mono ?_
  rintro e wa0x ⟨qa0, rfl, hb, hna, ow, ar⟩
  replace T := hide ((unhide T).later hb)
  have A0 := hide ar
  have sa0x := hb.size
  clear hb hna ow ar p0 p1 p2 p3 p4 p5 p6 p7
  go_wp2_with fail
  refine (unhide CS qa0 _ (unhide A0)).mono ?_
  rintro e ws ⟨vr, dr, okr, rfl, hb, hown, hu⟩
  have V0 := hide (VarS.start 41 hown)
  have UR := hide hu
  have ss := hb.size
  replace T := hide (((unhide T).later hb).later ((Below.refl _ _).alloc (Nat.le_refl _) (.cells #[.bool vr.lo.num.g, .slice vr.lo.num.a vr.lo.num.n vr.lo.num.c, .bool vr.lo.den.g, .slice vr.lo.den.a vr.lo.den.n vr.lo.den.c, .bool vr.hi.num.g, .slice vr.hi.num.a vr.hi.num.n vr.hi.num.c, .bool vr.hi.den.g, .slice vr.hi.den.a vr.hi.den.n vr.hi.den.c] 41)))
  clear hb hown hu A0
  have zG1 : w.heap.size + 1 ≤ ws.heap.size := by omega
  have r0 : vr.lo.num.n ≤ 40 := by rw [← ((unhide V0).own.own (vr.lo.num, dr.lo.num) (by simp)).len]; exact (unhide UL _ _ (unhide UR)).1
  have rm0 : vr.lo.num.n ≤ maxLen := by unfold maxLen; omega
  have rl0 : vr.lo.num.n ≤ 1048576 := by omega
  have r1 : vr.lo.den.n ≤ 40 := by rw [← ((unhide V0).own.own (vr.lo.den, dr.lo.den) (by simp)).len]; exact (unhide UL _ _ (unhide UR)).2.1
  have rm1 : vr.lo.den.n ≤ maxLen := by unfold maxLen; omega
  have rl1 : vr.lo.den.n ≤ 1048576 := by omega
  have r2 : vr.hi.num.n ≤ 40 := by rw [← ((unhide V0).own.own (vr.hi.num, dr.hi.num) (by simp)).len]; exact (unhide UL _ _ (unhide UR)).2.2.1
  have rm2 : vr.hi.num.n ≤ maxLen := by unfold maxLen; omega
  have rl2 : vr.hi.num.n ≤ 1048576 := by omega
  have r3 : vr.hi.den.n ≤ 40 := by rw [← ((unhide V0).own.own (vr.hi.den, dr.hi.den) (by simp)).len]; exact (unhide UL _ _ (unhide UR)).2.2.2
  have rm3 : vr.hi.den.n ≤ maxLen := by unfold maxLen; omega
  have rl3 : vr.hi.den.n ≤ 1048576 := by omega
  have p0 := (unhide T).x0_0
  have p1 := (unhide T).x0_1
  have p2 := (unhide T).x0_2
  have p3 := (unhide T).x0_3
  have p4 := (unhide T).x0_4
  have p5 := (unhide T).x0_5
  have p6 := (unhide T).x0_6
  have p7 := (unhide T).x0_7
  go_wp2_with fail
  refine (toS_at v0 d0 _ (unhide T).s0 l0 l1 l2 l3).mono ?_
  rintro e wx0 ⟨y0, rfl, hb, hnn, ow0, ar0⟩
  have hn0 := hide hnn
  clear hnn
  have VX0 := hide (VarS.start 41 (ow0.wide (lo' := ws.heap.size + 1) (by simp) (Nat.le_refl _)))
  have AX0 := hide (ar0.later ((Below.refl _ _).alloc (Nat.le_refl _) (.cells #[.bool y0.lo.num.g, .slice y0.lo.num.a y0.lo.num.n y0.lo.num.c, .bool y0.lo.den.g, .slice y0.lo.den.a y0.lo.den.n y0.lo.den.c, .bool y0.hi.num.g, .slice y0.hi.num.a y0.hi.num.n y0.hi.num.c, .bool y0.hi.den.g, .slice y0.hi.den.a y0.hi.den.n y0.hi.den.c] 41)))
  have s0 : ws.heap.size + 1 ≤ wx0.heap.size := by have := hb.size; simp at this; omega
  replace V0 := hide ((unhide V0).later hb)
  replace T := hide ((unhide T).later hb)
  replace V0 := hide ((unhide V0).later ((Below.refl _ _).alloc (Nat.le_refl _) (.cells #[.bool y0.lo.num.g, .slice y0.lo.num.a y0.lo.num.n y0.lo.num.c, .bool y0.lo.den.g, .slice y0.lo.den.a y0.lo.den.n y0.lo.den.c, .bool y0.hi.num.g, .slice y0.hi.num.a y0.hi.num.n y0.hi.num.c, .bool y0.hi.den.g, .slice y0.hi.den.a y0.hi.den.n y0.hi.den.c] 41)))
  replace T := hide ((unhide T).later ((Below.refl _ _).alloc (Nat.le_refl _) (.cells #[.bool y0.lo.num.g, .slice y0.lo.num.a y0.lo.num.n y0.lo.num.c, .bool y0.lo.den.g, .slice y0.lo.den.a y0.lo.den.n y0.lo.den.c, .bool y0.hi.num.g, .slice y0.hi.num.a y0.hi.num.n y0.hi.num.c, .bool y0.hi.den.g, .slice y0.hi.den.a y0.hi.den.n y0.hi.den.c] 41)))
  clear hb ow0 ar0 p0 p1 p2 p3 p4 p5 p6 p7
  go_wp2_with fail
  refine (unhide CI y0 _ (unhide AX0)).mono ?_
  rintro e w5 ⟨vg, dg, okg, rfl, hb, hown, hu⟩
  obtain ⟨e1, e2⟩ := unhide US _ _ _ _ (unhide UR) hu
  subst e1 e2
  have VG := hide (VarS.start 41 (hown.wide (lo' := wx0.heap.size + 1) (by simp) (Nat.le_refl _)))
  have sg : wx0.heap.size + 1 ≤ w5.heap.size := by have := hb.size; simp at this; omega
  have en0 : vg.lo.num.n = vr.lo.num.n := by rw [← ((unhide VG).own.own (vg.lo.num, dr.lo.num) (by simp)).len, ← ((unhide V0).own.own (vr.lo.num, dr.lo.num) (by simp)).len]
  have q0 : vg.lo.num.n ≤ 40 := by omega
  have qm0 : vg.lo.num.n ≤ maxLen := by omega
  have ql0 : vg.lo.num.n ≤ 1048576 := by omega
  have en1 : vg.lo.den.n = vr.lo.den.n := by rw [← ((unhide VG).own.own (vg.lo.den, dr.lo.den) (by simp)).len, ← ((unhide V0).own.own (vr.lo.den, dr.lo.den) (by simp)).len]
  have q1 : vg.lo.den.n ≤ 40 := by omega
  have qm1 : vg.lo.den.n ≤ maxLen := by omega
  have ql1 : vg.lo.den.n ≤ 1048576 := by omega
  have en2 : vg.hi.num.n = vr.hi.num.n := by rw [← ((unhide VG).own.own (vg.hi.num, dr.hi.num) (by simp)).len, ← ((unhide V0).own.own (vr.hi.num, dr.hi.num) (by simp)).len]
  have q2 : vg.hi.num.n ≤ 40 := by omega
  have qm2 : vg.hi.num.n ≤ maxLen := by omega
  have ql2 : vg.hi.num.n ≤ 1048576 := by omega
  have en3 : vg.hi.den.n = vr.hi.den.n := by rw [← ((unhide VG).own.own (vg.hi.den, dr.hi.den) (by simp)).len, ← ((unhide V0).own.own (vr.hi.den, dr.hi.den) (by simp)).len]
  have q3 : vg.hi.den.n ≤ 40 := by omega
  have qm3 : vg.hi.den.n ≤ maxLen := by omega
  have ql3 : vg.hi.den.n ≤ 1048576 := by omega
  clear AX0
  replace V0 := hide ((unhide V0).later hb)
  replace T := hide ((unhide T).later hb)
  replace VX0 := hide ((unhide VX0).later hb)
  clear hb hown hu
  replace V0 := hide ((unhide V0).later ((Below.refl _ _).alloc (Nat.le_refl _) (.cells #[.bool vg.lo.num.g, .slice vg.lo.num.a vg.lo.num.n vg.lo.num.c, .bool vg.lo.den.g, .slice vg.lo.den.a vg.lo.den.n vg.lo.den.c, .bool vg.hi.num.g, .slice vg.hi.num.a vg.hi.num.n vg.hi.num.c, .bool vg.hi.den.g, .slice vg.hi.den.a vg.hi.den.n vg.hi.den.c] 41)))
  replace T := hide ((unhide T).later ((Below.refl _ _).alloc (Nat.le_refl _) (.cells #[.bool vg.lo.num.g, .slice vg.lo.num.a vg.lo.num.n vg.lo.num.c, .bool vg.lo.den.g, .slice vg.lo.den.a vg.lo.den.n vg.lo.den.c, .bool vg.hi.num.g, .slice vg.hi.num.a vg.hi.num.n vg.hi.num.c, .bool vg.hi.den.g, .slice vg.hi.den.a vg.hi.den.n vg.hi.den.c] 41)))
  replace VX0 := hide ((unhide VX0).later ((Below.refl _ _).alloc (Nat.le_refl _) (.cells #[.bool vg.lo.num.g, .slice vg.lo.num.a vg.lo.num.n vg.lo.num.c, .bool vg.lo.den.g, .slice vg.lo.den.a vg.lo.den.n vg.lo.den.c, .bool vg.hi.num.g, .slice vg.hi.num.a vg.hi.num.n vg.hi.num.c, .bool vg.hi.den.g, .slice vg.hi.den.a vg.hi.den.n vg.hi.den.c] 41)))
  have enh0 := hide en0
  clear en0
  have enh1 := hide en1
  clear en1
  have enh2 := hide en2
  clear en2
  have enh3 := hide en3
  clear en3
  have p0 := (unhide V0).c0
  have p1 := (unhide V0).c1
  have p2 := (unhide V0).c2
  have p3 := (unhide V0).c3
  have p4 := (unhide V0).c4
  have p5 := (unhide V0).c5
  have p6 := (unhide V0).c6
  have p7 := (unhide V0).c7
  go_wp2_with fail
  refine (eqS_at vg vr dr _ (unhide VG).own.sl (unhide V0).own.sl qm0 qm1 qm2 qm3).mono ?_
  rintro e w6 ⟨rfl, hb⟩
  clear p0 p1 p2 p3 p4 p5 p6 p7
  replace V0 := hide ((unhide V0).later hb)
  replace T := hide ((unhide T).later hb)
  replace VX0 := hide ((unhide VX0).later hb)
  replace VG := hide ((unhide VG).later hb)
  clear hb
  generalize wx0.heap.size = GX0 at *
  generalize w5.heap.size = GG at *
  generalize ws.heap.size = GC at *
  go_wp2_with fail
  have ka0 := (unhide T).x0_0
  have kx0 := (unhide VX0).c0
  have ka1 := (unhide T).x0_1
  have kx1 := (unhide VX0).c1
  have ka2 := (unhide T).x0_2
  have kx2 := (unhide VX0).c2
  have ka3 := (unhide T).x0_3
  have kx3 := (unhide VX0).c3
  have ka4 := (unhide T).x0_4
  have kx4 := (unhide VX0).c4
  have ka5 := (unhide T).x0_5
  have kx5 := (unhide VX0).c5
  have ka6 := (unhide T).x0_6
  have kx6 := (unhide VX0).c6
  have ka7 := (unhide T).x0_7
  have kx7 := (unhide VX0).c7
  go_region_held3 (fun w' => w'.cell? ⟨w.heap.size, 0, none⟩ = some (.bool v0.lo.num.g) ∧ w'.cell? ⟨w.heap.size, 1, none⟩ = some (.slice v0.lo.num.a v0.lo.num.n v0.lo.num.c) ∧ w'.cell? ⟨w.heap.size, 2, none⟩ = some (.bool v0.lo.den.g) ∧ w'.cell? ⟨w.heap.size, 3, none⟩ = some (.slice v0.lo.den.a v0.lo.den.n v0.lo.den.c) ∧ w'.cell? ⟨w.heap.size, 4, none⟩ = some (.bool v0.hi.num.g) ∧ w'.cell? ⟨w.heap.size, 5, none⟩ = some (.slice v0.hi.num.a v0.hi.num.n v0.hi.num.c) ∧ w'.cell? ⟨w.heap.size, 6, none⟩ = some (.bool v0.hi.den.g) ∧ w'.cell? ⟨w.heap.size, 7, none⟩ = some (.slice v0.hi.den.a v0.hi.den.n v0.hi.den.c) ∧ w'.cell? ⟨GX0, 0, none⟩ = some (.bool y0.lo.num.g) ∧ w'.cell? ⟨GX0, 1, none⟩ = some (.slice y0.lo.num.a y0.lo.num.n y0.lo.num.c) ∧ w'.cell? ⟨GX0, 2, none⟩ = some (.bool y0.lo.den.g) ∧ w'.cell? ⟨GX0, 3, none⟩ = some (.slice y0.lo.den.a y0.lo.den.n y0.lo.den.c) ∧ w'.cell? ⟨GX0, 4, none⟩ = some (.bool y0.hi.num.g) ∧ w'.cell? ⟨GX0, 5, none⟩ = some (.slice y0.hi.num.a y0.hi.num.n y0.hi.num.c) ∧ w'.cell? ⟨GX0, 6, none⟩ = some (.bool y0.hi.den.g) ∧ w'.cell? ⟨GX0, 7, none⟩ = some (.slice y0.hi.den.a y0.hi.den.n y0.hi.den.c)) (with_reducible (first | exact ⟨ka0, ka1, ka2, ka3, ka4, ka5, ka6, ka7, kx0, kx1, kx2, kx3, kx4, kx5, kx6, kx7⟩ | exact ⟨cd_other ka0, cd_other ka1, cd_other ka2, cd_other ka3, cd_other ka4, cd_other ka5, cd_other ka6, cd_other ka7, cd_other kx0, cd_other kx1, cd_other kx2, cd_other kx3, cd_other kx4, cd_other kx5, cd_other kx6, cd_other kx7⟩ | fail))
    (first
    | (go_at_call 36; refine (toS_at v0 d0 _ ?_ l0 l1 l2 l3).mono ?_; exact (unhide T).s0.later (Below.refl _ _).drew; rintro e w7 ⟨u7, rfl, hb', hn7, ow7, ar7⟩; have hb := below_of_drew hb'; replace V0 := hide ((unhide V0).later hb); replace T := hide ((unhide T).later hb); replace VX0 := hide ((unhide VX0).later hb); replace VG := hide ((unhide VG).later hb); replace ka0 := (unhide T).x0_0; replace kx0 := (unhide VX0).c0; replace ka1 := (unhide T).x0_1; replace kx1 := (unhide VX0).c1; replace ka2 := (unhide T).x0_2; replace kx2 := (unhide VX0).c2; replace ka3 := (unhide T).x0_3; replace kx3 := (unhide VX0).c3; replace ka4 := (unhide T).x0_4; replace kx4 := (unhide VX0).c4; replace ka5 := (unhide T).x0_5; replace kx5 := (unhide VX0).c5; replace ka6 := (unhide T).x0_6; replace kx6 := (unhide VX0).c6; replace ka7 := (unhide T).x0_7; replace kx7 := (unhide VX0).c7; have S7 := hide ow7.sl; clear hb hb' ow7 ar7 hn7)
    | (go_at_call 38; refine (eqS_at y0 u7 d0 _ (unhide VX0).own.sl (unhide S7) (by rw [(unhide hn0).1]; exact lm0) (by rw [(unhide hn0).2.1]; exact lm1) (by rw [(unhide hn0).2.2.1]; exact lm2) (by rw [(unhide hn0).2.2.2]; exact lm3)).mono ?_; rintro e w8 ⟨rfl, hb⟩; replace V0 := hide ((unhide V0).later hb); replace T := hide ((unhide T).later hb); replace VX0 := hide ((unhide VX0).later hb); replace VG := hide ((unhide VG).later hb); replace ka0 := (unhide T).x0_0; replace kx0 := (unhide VX0).c0; replace ka1 := (unhide T).x0_1; replace kx1 := (unhide VX0).c1; replace ka2 := (unhide T).x0_2; replace kx2 := (unhide VX0).c2; replace ka3 := (unhide T).x0_3; replace kx3 := (unhide VX0).c3; replace ka4 := (unhide T).x0_4; replace kx4 := (unhide VX0).c4; replace ka5 := (unhide T).x0_5; replace kx5 := (unhide VX0).c5; replace ka6 := (unhide T).x0_6; replace kx6 := (unhide VX0).c6; replace ka7 := (unhide T).x0_7; replace kx7 := (unhide VX0).c7; clear hb))
  clear S7 ka0 kx0 ka1 kx1 ka2 kx2 ka3 kx3 ka4 kx4 ka5 kx5 ka6 kx6 ka7 kx7
  have p0 := (unhide VX0).c0
  have p1 := (unhide VX0).c1
  have p2 := (unhide VX0).c2
  have p3 := (unhide VX0).c3
  have p4 := (unhide VX0).c4
  have p5 := (unhide VX0).c5
  have p6 := (unhide VX0).c6
  have p7 := (unhide VX0).c7
  have hl0 : y0.lo.num.n ≤ 1048576 := by rw [(unhide hn0).1]; exact l0
  have hl1 : y0.lo.den.n ≤ 1048576 := by rw [(unhide hn0).2.1]; exact l1
  have hl2 : y0.hi.num.n ≤ 1048576 := by rw [(unhide hn0).2.2.1]; exact l2
  have hl3 : y0.hi.den.n ≤ 1048576 := by rw [(unhide hn0).2.2.2]; exact l3
  go_wp2_with fail
  refine (markS_at y0 d0 [] [] 1 (GC + 1) GX0 _ (unhide VX0).own hl0 hl1 hl2 hl3 (by have := (unhide VX0).gt; omega) (by omega) (by have := (unhide hn0).1; have := (unhide hn0).2.1; have := (unhide hn0).2.2.1; have := (unhide hn0).2.2.2; omega)).mono ?_
  rintro e w10 ⟨rfl, hbt, hmk⟩
  replace T := hide ((unhide T).but hbt (by omega) (unhide HX0))
  replace V0 := hide ((unhide V0).but hbt (by omega) (by omega))
  replace VG := hide ((unhide VG).but hbt (by omega) (by omega))
  clear VX0 p0 p1 p2 p3 p4 p5 p6 p7 hbt hmk hl0 hl1 hl2 hl3
  have hk0 : decide ((1 : Int) + (y0.lo.num.n : Int) + (y0.lo.den.n : Int) + (y0.hi.num.n : Int) + (y0.hi.den.n : Int) < 0) = false := by simp; omega
  have p0 := (unhide VG).c0
  have pq0 := (unhide V0).c0
  have p1 := (unhide VG).c1
  have pq1 := (unhide V0).c1
  have p2 := (unhide VG).c2
  have pq2 := (unhide V0).c2
  have p3 := (unhide VG).c3
  have pq3 := (unhide V0).c3
  have p4 := (unhide VG).c4
  have pq4 := (unhide V0).c4
  have p5 := (unhide VG).c5
  have pq5 := (unhide V0).c5
  have p6 := (unhide VG).c6
  have pq6 := (unhide V0).c6
  have p7 := (unhide VG).c7
  have pq7 := (unhide V0).c7
  go_wp2_with fail
  refine (eqS_at vg vr dr _ (unhide VG).own.sl (unhide V0).own.sl qm0 qm1 qm2 qm3).mono ?_
  rintro e w20 ⟨rfl, hb⟩
  clear p0 pq0 p1 pq1 p2 pq2 p3 pq3 p4 pq4 p5 pq5 p6 pq6 p7 pq7 hk0
  replace V0 := hide ((unhide V0).later hb)
  replace T := hide ((unhide T).later hb)
  replace VG := hide ((unhide VG).later hb)
  clear hb
  have p0 := (unhide VG).c0
  have p1 := (unhide VG).c1
  have p2 := (unhide VG).c2
  have p3 := (unhide VG).c3
  have p4 := (unhide VG).c4
  have p5 := (unhide VG).c5
  have p6 := (unhide VG).c6
  have p7 := (unhide VG).c7
  go_wp2_with fail
  refine (markS_at vg dr [] [] 1 (GX0 + 1) GG _ (unhide VG).own ql0 ql1 ql2 ql3 (by have := (unhide VG).gt; omega) (by omega) (by omega)).mono ?_
  rintro e w21 ⟨rfl, hbt, hmk⟩
  replace T := hide ((unhide T).but hbt (by omega) (unhide HX0))
  replace V0 := hide ((unhide V0).but hbt (by omega) (by omega))
  replace VG := hide ((unhide VG).mark (d' := ⟨⟨⟨dr.lo.num.g, marks (1) vg.lo.num.n⟩, ⟨dr.lo.den.g, marks (1 + vg.lo.num.n) vg.lo.den.n⟩⟩, ⟨⟨dr.hi.num.g, marks (1 + vg.lo.num.n + vg.lo.den.n) vg.hi.num.n⟩, ⟨dr.hi.den.g, marks (1 + vg.lo.num.n + vg.lo.den.n + vg.hi.num.n) vg.hi.den.n⟩⟩⟩) hbt (by omega) hmk)
  clear p0 p1 p2 p3 p4 p5 p6 p7 hbt hmk
  have p0 := (unhide VG).c0
  have p1 := (unhide VG).c1
  have p2 := (unhide VG).c2
  have p3 := (unhide VG).c3
  have p4 := (unhide VG).c4
  have p5 := (unhide VG).c5
  have p6 := (unhide VG).c6
  have p7 := (unhide VG).c7
  go_wp2_with fail
  refine (heldS_at vg 1 _ ((unhide VG).own.sl (vg.lo.num, ⟨dr.lo.num.g, marks (1) vg.lo.num.n⟩) (by simp)).sl ((unhide VG).own.sl (vg.lo.den, ⟨dr.lo.den.g, marks (1 + (vg.lo.num.n : Int)) vg.lo.den.n⟩) (by simp)).sl ((unhide VG).own.sl (vg.hi.num, ⟨dr.hi.num.g, marks (1 + (vg.lo.num.n : Int) + (vg.lo.den.n : Int)) vg.hi.num.n⟩) (by simp)).sl ((unhide VG).own.sl (vg.hi.den, ⟨dr.hi.den.g, marks (1 + (vg.lo.num.n : Int) + (vg.lo.den.n : Int) + (vg.hi.num.n : Int)) vg.hi.den.n⟩) (by simp)).sl ql0 ql1 ql2 ql3 (by omega) (by omega)).mono ?_
  rintro e wk ⟨rfl, hb⟩
  replace V0 := hide ((unhide V0).later hb)
  replace T := hide ((unhide T).later hb)
  replace VG := hide ((unhide VG).later hb)
  have hr0 : ¬ ((1 : Int) + (vg.lo.num.n : Int) + (vg.lo.den.n : Int) + (vg.hi.num.n : Int) + (vg.hi.den.n : Int) < 0) := by omega
  have zk : w.heap.size + 1 ≤ wk.heap.size := by have h1 := (unhide VG).gt; omega
  clear p0 p1 p2 p3 p4 p5 p6 p7 hb
  have p0 := (unhide T).x0_0
  have p1 := (unhide T).x0_1
  have p2 := (unhide T).x0_2
  have p3 := (unhide T).x0_3
  have p4 := (unhide T).x0_4
  have p5 := (unhide T).x0_5
  have p6 := (unhide T).x0_6
  have p7 := (unhide T).x0_7
  go_wp2_with fail
  refine (toS_at v0 d0 _ (unhide T).s0 l0 l1 l2 l3).mono ?_
  rintro e wa0y ⟨qa0, rfl, hb, hna, ow, ar⟩
  replace T := hide ((unhide T).later hb)
  replace V0 := hide ((unhide V0).later hb)
  replace VG := hide ((unhide VG).later hb)
  have A0 := hide ar
  have sa0y := hb.size
  clear hb hna ow ar p0 p1 p2 p3 p4 p5 p6 p7
  go_wp2_with fail
  refine (unhide CI qa0 _ (unhide A0)).mono ?_
  rintro e wh ⟨vh, dh, okh, rfl, hb, hown, hu⟩
  obtain ⟨e1, e2⟩ := unhide US _ _ _ _ (unhide UR) hu
  subst e1 e2
  have VH := hide (VarS.start 41 hown)
  replace T := hide ((unhide T).later hb)
  replace V0 := hide ((unhide V0).later hb)
  replace VG := hide ((unhide VG).later hb)
  replace T := hide ((unhide T).later ((Below.refl _ _).alloc (Nat.le_refl _) (.cells #[.bool vh.lo.num.g, .slice vh.lo.num.a vh.lo.num.n vh.lo.num.c, .bool vh.lo.den.g, .slice vh.lo.den.a vh.lo.den.n vh.lo.den.c, .bool vh.hi.num.g, .slice vh.hi.num.a vh.hi.num.n vh.hi.num.c, .bool vh.hi.den.g, .slice vh.hi.den.a vh.hi.den.n vh.hi.den.c] 41)))
  replace V0 := hide ((unhide V0).later ((Below.refl _ _).alloc (Nat.le_refl _) (.cells #[.bool vh.lo.num.g, .slice vh.lo.num.a vh.lo.num.n vh.lo.num.c, .bool vh.lo.den.g, .slice vh.lo.den.a vh.lo.den.n vh.lo.den.c, .bool vh.hi.num.g, .slice vh.hi.num.a vh.hi.num.n vh.hi.num.c, .bool vh.hi.den.g, .slice vh.hi.den.a vh.hi.den.n vh.hi.den.c] 41)))
  replace VG := hide ((unhide VG).later ((Below.refl _ _).alloc (Nat.le_refl _) (.cells #[.bool vh.lo.num.g, .slice vh.lo.num.a vh.lo.num.n vh.lo.num.c, .bool vh.lo.den.g, .slice vh.lo.den.a vh.lo.den.n vh.lo.den.c, .bool vh.hi.num.g, .slice vh.hi.num.a vh.hi.num.n vh.hi.num.c, .bool vh.hi.den.g, .slice vh.hi.den.a vh.hi.den.n vh.hi.den.c] 41)))
  clear hb hown hu A0
  have hm0 : vh.lo.num.n ≤ maxLen := by rw [← ((unhide VH).own.own (vh.lo.num, dr.lo.num) (by simp)).len, ((unhide V0).own.own (vr.lo.num, dr.lo.num) (by simp)).len]; exact rm0
  have hm1 : vh.lo.den.n ≤ maxLen := by rw [← ((unhide VH).own.own (vh.lo.den, dr.lo.den) (by simp)).len, ((unhide V0).own.own (vr.lo.den, dr.lo.den) (by simp)).len]; exact rm1
  have hm2 : vh.hi.num.n ≤ maxLen := by rw [← ((unhide VH).own.own (vh.hi.num, dr.hi.num) (by simp)).len, ((unhide V0).own.own (vr.hi.num, dr.hi.num) (by simp)).len]; exact rm2
  have hm3 : vh.hi.den.n ≤ maxLen := by rw [← ((unhide VH).own.own (vh.hi.den, dr.hi.den) (by simp)).len, ((unhide V0).own.own (vr.hi.den, dr.hi.den) (by simp)).len]; exact rm3
  have p0 := (unhide VH).c0
  have pq0 := (unhide V0).c0
  have p1 := (unhide VH).c1
  have pq1 := (unhide V0).c1
  have p2 := (unhide VH).c2
  have pq2 := (unhide V0).c2
  have p3 := (unhide VH).c3
  have pq3 := (unhide V0).c3
  have p4 := (unhide VH).c4
  have pq4 := (unhide V0).c4
  have p5 := (unhide VH).c5
  have pq5 := (unhide V0).c5
  have p6 := (unhide VH).c6
  have pq6 := (unhide V0).c6
  have p7 := (unhide VH).c7
  have pq7 := (unhide V0).c7
  go_wp2_with fail
  refine (eqS_at vh vr dr _ (unhide VH).own.sl (unhide V0).own.sl hm0 hm1 hm2 hm3).mono ?_
  rintro e w30 ⟨rfl, hb⟩
  clear p0 pq0 p1 pq1 p2 pq2 p3 pq3 p4 pq4 p5 pq5 p6 pq6 p7 pq7
  replace T := hide ((unhide T).later hb)
  replace VG := hide ((unhide VG).later hb)
  clear hb VH V0
  have p0 := (unhide VG).c0
  have p1 := (unhide VG).c1
  have p2 := (unhide VG).c2
  have p3 := (unhide VG).c3
  have p4 := (unhide VG).c4
  have p5 := (unhide VG).c5
  have p6 := (unhide VG).c6
  have p7 := (unhide VG).c7
  go_wp2_with fail
  refine (heldS_at vg 1 _ ((unhide VG).own.sl (vg.lo.num, ⟨dr.lo.num.g, marks (1) vg.lo.num.n⟩) (by simp)).sl ((unhide VG).own.sl (vg.lo.den, ⟨dr.lo.den.g, marks (1 + (vg.lo.num.n : Int)) vg.lo.den.n⟩) (by simp)).sl ((unhide VG).own.sl (vg.hi.num, ⟨dr.hi.num.g, marks (1 + (vg.lo.num.n : Int) + (vg.lo.den.n : Int)) vg.hi.num.n⟩) (by simp)).sl ((unhide VG).own.sl (vg.hi.den, ⟨dr.hi.den.g, marks (1 + (vg.lo.num.n : Int) + (vg.lo.den.n : Int) + (vg.hi.num.n : Int)) vg.hi.den.n⟩) (by simp)).sl ql0 ql1 ql2 ql3 (by omega) (by omega)).mono ?_
  rintro e w31 ⟨rfl, hb⟩
  replace T := hide ((unhide T).later hb)
  clear p0 p1 p2 p3 p4 p5 p6 p7 hb
  go_wp2
  go_ret
  exact ⟨rfl, (unhide T).bel⟩

theorem lawInvS_walk (v0 : SV) (d0 : SD) (w : World) (hx0 : AllSl w [(v0.lo.num, d0.lo.num), (v0.lo.den, d0.lo.den), (v0.hi.num, d0.hi.num), (v0.hi.den, d0.hi.den)])  (m0 : v0.lo.num.n ≤ maxLen) (m1 : v0.lo.den.n ≤ maxLen) (m2 : v0.hi.num.n ≤ maxLen) (m3 : v0.hi.den.n ≤ maxLen) :
    Calls Try.prog 11 #[.agg #[.bool v0.lo.num.g, .slice v0.lo.num.a v0.lo.num.n v0.lo.num.c, .bool v0.lo.den.g, .slice v0.lo.den.a v0.lo.den.n v0.lo.den.c, .bool v0.hi.num.g, .slice v0.hi.num.a v0.hi.num.n v0.hi.num.c, .bool v0.hi.den.g, .slice v0.hi.den.a v0.hi.den.n v0.hi.den.c]] w fun e w' => e = .returned (.bool true) ∧ Below w.heap.size w w' := by
  by_cases g0 : v0.lo.num.n + v0.lo.den.n + v0.hi.num.n + v0.hi.den.n ≤ 1048576
  · exact lawInvS_in v0 d0 w hx0  g0
  · exact lawInvS_out0 v0 w m0 m1 m2 m3 (by omega) (by omega)
end Go.Proofs.Ytlmeokeanihhoaa

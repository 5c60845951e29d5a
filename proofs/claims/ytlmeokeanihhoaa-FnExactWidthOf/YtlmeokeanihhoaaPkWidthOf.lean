/- The walk through the law FnExactWidthOf: it returns true. No condition beyond those typed. Written by mklaw.py. -/
import Derived.Test.YtlmeokeanihhoaaFlatQ
import Derived.Test.YtlmeokeanihhoaaRatF
namespace Go.Proofs.Ytlmeokeanihhoaa
open Go.RowKit
set_option linter.unusedVariables false
set_option maxRecDepth 100000
set_option linter.unusedSimpArgs false

theorem szS_in (v : SV) (left : Int) (w : World) (h0 : 0 ≤ left) (h1 : left ≤ 1048576) (h : (v.lo.num.n : Int) + (v.lo.den.n : Int) + (v.hi.num.n : Int) + (v.hi.den.n : Int) ≤ left) :
    Calls Try.prog 34 #[.agg #[.bool v.lo.num.g, .slice v.lo.num.a v.lo.num.n v.lo.num.c, .bool v.lo.den.g, .slice v.lo.den.a v.lo.den.n v.lo.den.c, .bool v.hi.num.g, .slice v.hi.num.a v.hi.num.n v.hi.num.c, .bool v.hi.den.g, .slice v.hi.den.a v.hi.den.n v.hi.den.c], .int .i64 left] w fun e w' => e = .returned (.int .i64 (left - (v.lo.num.n : Int) - (v.lo.den.n : Int) - (v.hi.num.n : Int) - (v.hi.den.n : Int))) ∧ Below w.heap.size w w' := by
  have k1 : ¬ (left - (v.lo.num.n : Int) - (v.lo.den.n : Int) < 0) := by omega
  have k2 : ¬ (left - (v.lo.num.n : Int) - (v.lo.den.n : Int) - (v.hi.num.n : Int) - (v.hi.den.n : Int) < 0) := by omega
  go_enter Try.func34, Try.ntmps34
  go_wp2_with fail
  refine (szQ_in v.lo left _ h0 h1 (by omega)).mono ?_
  rintro e w1 ⟨rfl, hb1⟩
  have y4 : w1.cell? ⟨w.heap.size, 4, none⟩ = some (.bool v.hi.num.g) := cell_later hb1 (by simp [go_sem])
  have y5 : w1.cell? ⟨w.heap.size, 5, none⟩ = some (.slice v.hi.num.a v.hi.num.n v.hi.num.c) := cell_later hb1 (by simp [go_sem])
  have y6 : w1.cell? ⟨w.heap.size, 6, none⟩ = some (.bool v.hi.den.g) := cell_later hb1 (by simp [go_sem])
  have y7 : w1.cell? ⟨w.heap.size, 7, none⟩ = some (.slice v.hi.den.a v.hi.den.n v.hi.den.c) := cell_later hb1 (by simp [go_sem])
  have HB := hide (ba hb1)
  clear hb1
  go_wp2_with fail
  refine (szQ_in v.hi _ _ (by omega) (by omega) (by omega)).mono ?_
  rintro e w2 ⟨rfl, hb2⟩
  have HB2 := hide (below_on (unhide HB) hb2)
  clear hb2
  go_wp2
  go_ret
  exact ⟨rfl, unhide HB2⟩

theorem szS_out (v : SV) (left : Int) (w : World) (h0 : 0 ≤ left) (h1 : left ≤ 1048576) (hm0 : v.lo.num.n ≤ maxLen) (hm1 : v.lo.den.n ≤ maxLen) (hm2 : v.hi.num.n ≤ maxLen) (hm3 : v.hi.den.n ≤ maxLen) (h : left < (v.lo.num.n : Int) + (v.lo.den.n : Int) + (v.hi.num.n : Int) + (v.hi.den.n : Int)) :
    Calls Try.prog 34 #[.agg #[.bool v.lo.num.g, .slice v.lo.num.a v.lo.num.n v.lo.num.c, .bool v.lo.den.g, .slice v.lo.den.a v.lo.den.n v.lo.den.c, .bool v.hi.num.g, .slice v.hi.num.a v.hi.num.n v.hi.num.c, .bool v.hi.den.g, .slice v.hi.den.a v.hi.den.n v.hi.den.c], .int .i64 left] w fun e w' => e = .returned (.int .i64 (-1)) ∧ Below w.heap.size w w' := by
  by_cases hn : left < (v.lo.num.n : Int) + (v.lo.den.n : Int)
  · go_enter Try.func34, Try.ntmps34
    go_wp2_with fail
    refine (szQ_out v.lo left _ h0 h1 hm0 hm1 hn).mono ?_
    rintro e w1 ⟨rfl, hb1⟩
    have HB := hide (ba hb1)
    clear hb1
    go_wp2
    go_ret
    exact ⟨rfl, unhide HB⟩
  · have k1 : ¬ (left - (v.lo.num.n : Int) - (v.lo.den.n : Int) < 0) := by omega
    go_enter Try.func34, Try.ntmps34
    go_wp2_with fail
    refine (szQ_in v.lo left _ h0 h1 (by omega)).mono ?_
    rintro e w1 ⟨rfl, hb1⟩
    have y4 : w1.cell? ⟨w.heap.size, 4, none⟩ = some (.bool v.hi.num.g) := cell_later hb1 (by simp [go_sem])
    have y5 : w1.cell? ⟨w.heap.size, 5, none⟩ = some (.slice v.hi.num.a v.hi.num.n v.hi.num.c) := cell_later hb1 (by simp [go_sem])
    have y6 : w1.cell? ⟨w.heap.size, 6, none⟩ = some (.bool v.hi.den.g) := cell_later hb1 (by simp [go_sem])
    have y7 : w1.cell? ⟨w.heap.size, 7, none⟩ = some (.slice v.hi.den.a v.hi.den.n v.hi.den.c) := cell_later hb1 (by simp [go_sem])
    have HB := hide (ba hb1)
    clear hb1
    go_wp2_with fail
    refine (szQ_out v.hi _ _ (by omega) (by omega) hm2 hm3 (by omega)).mono ?_
    rintro e w2 ⟨rfl, hb2⟩
    have HB2 := hide (below_on (unhide HB) hb2)
    clear hb2
    go_wp2
    go_ret
    exact ⟨rfl, unhide HB2⟩

theorem AllSl.Sl {w : World} {v : SV} {d : SD} (h : AllSl w [(v.lo.num, d.lo.num), (v.lo.den, d.lo.den), (v.hi.num, d.hi.num), (v.hi.den, d.hi.den)]) : AllSl w [(v.lo.num, d.lo.num), (v.lo.den, d.lo.den)] := fun p hp => h p (show p ∈ [(v.lo.num, d.lo.num), (v.lo.den, d.lo.den), (v.hi.num, d.hi.num), (v.hi.den, d.hi.den)] from (List.mem_append_left [(v.hi.num, d.hi.num), (v.hi.den, d.hi.den)] hp : p ∈ [(v.lo.num, d.lo.num), (v.lo.den, d.lo.den)] ++ [(v.hi.num, d.hi.num), (v.hi.den, d.hi.den)]))
theorem AllSl.Sr {w : World} {v : SV} {d : SD} (h : AllSl w [(v.lo.num, d.lo.num), (v.lo.den, d.lo.den), (v.hi.num, d.hi.num), (v.hi.den, d.hi.den)]) : AllSl w [(v.hi.num, d.hi.num), (v.hi.den, d.hi.den)] := fun p hp => h p (show p ∈ [(v.lo.num, d.lo.num), (v.lo.den, d.lo.den), (v.hi.num, d.hi.num), (v.hi.den, d.hi.den)] from (List.mem_append_right [(v.lo.num, d.lo.num), (v.lo.den, d.lo.den)] hp : p ∈ [(v.lo.num, d.lo.num), (v.lo.den, d.lo.den)] ++ [(v.hi.num, d.hi.num), (v.hi.den, d.hi.den)]))
theorem AllAr.Sl {w : World} {v : SV} {d : SD} (h : AllAr w [(v.lo.num, d.lo.num), (v.lo.den, d.lo.den), (v.hi.num, d.hi.num), (v.hi.den, d.hi.den)]) : AllAr w [(v.lo.num, d.lo.num), (v.lo.den, d.lo.den)] := fun p hp => h p (show p ∈ [(v.lo.num, d.lo.num), (v.lo.den, d.lo.den), (v.hi.num, d.hi.num), (v.hi.den, d.hi.den)] from (List.mem_append_left [(v.hi.num, d.hi.num), (v.hi.den, d.hi.den)] hp : p ∈ [(v.lo.num, d.lo.num), (v.lo.den, d.lo.den)] ++ [(v.hi.num, d.hi.num), (v.hi.den, d.hi.den)]))
theorem AllAr.Sr {w : World} {v : SV} {d : SD} (h : AllAr w [(v.lo.num, d.lo.num), (v.lo.den, d.lo.den), (v.hi.num, d.hi.num), (v.hi.den, d.hi.den)]) : AllAr w [(v.hi.num, d.hi.num), (v.hi.den, d.hi.den)] := fun p hp => h p (show p ∈ [(v.lo.num, d.lo.num), (v.lo.den, d.lo.den), (v.hi.num, d.hi.num), (v.hi.den, d.hi.den)] from (List.mem_append_right [(v.lo.num, d.lo.num), (v.lo.den, d.lo.den)] hp : p ∈ [(v.lo.num, d.lo.num), (v.lo.den, d.lo.den)] ++ [(v.hi.num, d.hi.num), (v.hi.den, d.hi.den)]))

set_option maxHeartbeats 4000000 in
theorem toS_at (v : SV) (d : SD) (w : World) (h : AllSl w [(v.lo.num, d.lo.num), (v.lo.den, d.lo.den), (v.hi.num, d.hi.num), (v.hi.den, d.hi.den)]) (h1 : v.lo.num.n ≤ 1048576) (h2 : v.lo.den.n ≤ 1048576) (h3 : v.hi.num.n ≤ 1048576) (h4 : v.hi.den.n ≤ 1048576) :
    Calls Try.prog 36 #[.agg #[.bool v.lo.num.g, .slice v.lo.num.a v.lo.num.n v.lo.num.c, .bool v.lo.den.g, .slice v.lo.den.a v.lo.den.n v.lo.den.c, .bool v.hi.num.g, .slice v.hi.num.a v.hi.num.n v.hi.num.c, .bool v.hi.den.g, .slice v.hi.den.a v.hi.den.n v.hi.den.c]] w fun e w' => ∃ u : SV, e = .returned (.agg #[.bool u.lo.num.g, .slice u.lo.num.a u.lo.num.n u.lo.num.c, .bool u.lo.den.g, .slice u.lo.den.a u.lo.den.n u.lo.den.c, .bool u.hi.num.g, .slice u.hi.num.a u.hi.num.n u.hi.num.c, .bool u.hi.den.g, .slice u.hi.den.a u.hi.den.n u.hi.den.c]) ∧ Below w.heap.size w w' ∧ (u.lo.num.n = v.lo.num.n ∧ u.lo.den.n = v.lo.den.n ∧ u.hi.num.n = v.hi.num.n ∧ u.hi.den.n = v.hi.den.n) ∧ AllOwn w.heap.size w'.heap.size w' [(u.lo.num, d.lo.num), (u.lo.den, d.lo.den), (u.hi.num, d.hi.num), (u.hi.den, d.hi.den)] ∧ AllAr w' [(u.lo.num, d.lo.num), (u.lo.den, d.lo.den), (u.hi.num, d.hi.num), (u.hi.den, d.hi.den)] := by
  have HX := hide h
  clear h
  have B3 := hide (below_three w (.cells #[.bool v.lo.num.g, .slice v.lo.num.a v.lo.num.n v.lo.num.c, .bool v.lo.den.g, .slice v.lo.den.a v.lo.den.n v.lo.den.c, .bool v.hi.num.g, .slice v.hi.num.a v.hi.num.n v.hi.num.c, .bool v.hi.den.g, .slice v.hi.den.a v.hi.den.n v.hi.den.c] 38) (.cells #[.bool false, .slice none 0 0, .bool false, .slice none 0 0, .bool false, .slice none 0 0, .bool false, .slice none 0 0] 41) (.cells #[.bool false, .slice none 0 0, .bool false, .slice none 0 0, .bool false, .slice none 0 0, .bool false, .slice none 0 0] 41))
  go_enter Try.func36, Try.ntmps36
  go_wp2_with fail
  refine (toQ_at v.lo d.lo _ ((unhide HX).Sl.later (unhide B3)) h1 h2).mono ?_
  rintro e w1 ⟨u1, rfl, hb1, hn1, ow1, ar1⟩
  have hs1 : w.heap.size + 3 ≤ w1.heap.size := by have := hb1.size; simp at this; omega
  have ow1' : AllOwn (w.heap.size + 3) w1.heap.size w1 [(u1.num, d.lo.num), (u1.den, d.lo.den)] := ow1.wide (by simp) (Nat.le_refl _)
  have B1 : Below w.heap.size w w1 := (unhide B3).trans (hb1.mono (by simp <;> omega))
  have y4 : w1.cell? ⟨w.heap.size, 4, none⟩ = some (.bool v.hi.num.g) := cell_later hb1 (by simp [go_sem])
  have y5 : w1.cell? ⟨w.heap.size, 5, none⟩ = some (.slice v.hi.num.a v.hi.num.n v.hi.num.c) := cell_later hb1 (by simp [go_sem])
  have y6 : w1.cell? ⟨w.heap.size, 6, none⟩ = some (.bool v.hi.den.g) := cell_later hb1 (by simp [go_sem])
  have y7 : w1.cell? ⟨w.heap.size, 7, none⟩ = some (.slice v.hi.den.a v.hi.den.n v.hi.den.c) := cell_later hb1 (by simp [go_sem])
  have q0 : w1.cell? ⟨w.heap.size + 1, 0, none⟩ = some (.bool false) := cell_later hb1 (by simp [go_sem])
  have q1 : w1.cell? ⟨w.heap.size + 1, 1, none⟩ = some (.slice none 0 0) := cell_later hb1 (by simp [go_sem])
  have q2 : w1.cell? ⟨w.heap.size + 1, 2, none⟩ = some (.bool false) := cell_later hb1 (by simp [go_sem])
  have q3 : w1.cell? ⟨w.heap.size + 1, 3, none⟩ = some (.slice none 0 0) := cell_later hb1 (by simp [go_sem])
  have q4 : w1.cell? ⟨w.heap.size + 1, 4, none⟩ = some (.bool false) := cell_later hb1 (by simp [go_sem])
  have q5 : w1.cell? ⟨w.heap.size + 1, 5, none⟩ = some (.slice none 0 0) := cell_later hb1 (by simp [go_sem])
  have q6 : w1.cell? ⟨w.heap.size + 1, 6, none⟩ = some (.bool false) := cell_later hb1 (by simp [go_sem])
  have q7 : w1.cell? ⟨w.heap.size + 1, 7, none⟩ = some (.slice none 0 0) := cell_later hb1 (by simp [go_sem])
  have r0 : w1.cell? ⟨w.heap.size + 1 + 1, 0, none⟩ = some (.bool false) := cell_later hb1 (by simp [go_sem])
  have r1 : w1.cell? ⟨w.heap.size + 1 + 1, 1, none⟩ = some (.slice none 0 0) := cell_later hb1 (by simp [go_sem])
  have r2 : w1.cell? ⟨w.heap.size + 1 + 1, 2, none⟩ = some (.bool false) := cell_later hb1 (by simp [go_sem])
  have r3 : w1.cell? ⟨w.heap.size + 1 + 1, 3, none⟩ = some (.slice none 0 0) := cell_later hb1 (by simp [go_sem])
  have r4 : w1.cell? ⟨w.heap.size + 1 + 1, 4, none⟩ = some (.bool false) := cell_later hb1 (by simp [go_sem])
  have r5 : w1.cell? ⟨w.heap.size + 1 + 1, 5, none⟩ = some (.slice none 0 0) := cell_later hb1 (by simp [go_sem])
  have r6 : w1.cell? ⟨w.heap.size + 1 + 1, 6, none⟩ = some (.bool false) := cell_later hb1 (by simp [go_sem])
  have r7 : w1.cell? ⟨w.heap.size + 1 + 1, 7, none⟩ = some (.slice none 0 0) := cell_later hb1 (by simp [go_sem])
  have f1 : ∀ o, w1.frozen? ⟨w.heap.size + 1, o, none⟩ = false := fun o => frozen_later hb1 (by simp) (by simp [go_sem])
  have f2 : ∀ o, w1.frozen? ⟨w.heap.size + 1 + 1, o, none⟩ = false := fun o => frozen_later hb1 (by simp) (by simp [go_sem])
  have O1 := hide (And.intro ow1' (And.intro ar1 hn1))
  have HB1 := hide B1
  clear ow1 ow1' ar1 hn1 hb1 B1
  go_wp2_with fail
  have B1' : Below w.heap.size w ((((w1.setCell ⟨w.heap.size + 1 + 1, 0, none⟩ (.bool u1.num.g)).setCell ⟨w.heap.size + 1 + 1, 1, none⟩ (.slice u1.num.a u1.num.n u1.num.c)).setCell ⟨w.heap.size + 1 + 1, 2, none⟩ (.bool u1.den.g)).setCell ⟨w.heap.size + 1 + 1, 3, none⟩ (.slice u1.den.a u1.den.n u1.den.c)) := (((((unhide HB1).setCell (by show w.heap.size ≤ w.heap.size + 1 + 1; omega) _).setCell (by show w.heap.size ≤ w.heap.size + 1 + 1; omega) _).setCell (by show w.heap.size ≤ w.heap.size + 1 + 1; omega) _).setCell (by show w.heap.size ≤ w.heap.size + 1 + 1; omega) _)
  refine (toQ_at v.hi d.hi _ ((unhide HX).Sr.later B1') h3 h4).mono ?_
  rintro e w2 ⟨u2, rfl, hb2, hn2, ow2, ar2⟩
  have hsz : ((((w1.setCell ⟨w.heap.size + 1 + 1, 0, none⟩ (.bool u1.num.g)).setCell ⟨w.heap.size + 1 + 1, 1, none⟩ (.slice u1.num.a u1.num.n u1.num.c)).setCell ⟨w.heap.size + 1 + 1, 2, none⟩ (.bool u1.den.g)).setCell ⟨w.heap.size + 1 + 1, 3, none⟩ (.slice u1.den.a u1.den.n u1.den.c)).heap.size = w1.heap.size := by simp [World.setCell]
  have ow2' : AllOwn w1.heap.size w2.heap.size w2 [(u2.num, d.hi.num), (u2.den, d.hi.den)] := ow2.wide (by rw [hsz]; exact Nat.le_refl _) (Nat.le_refl _)
  have bt : But (w.heap.size + 1 + 1) (w.heap.size + 3) w1 ((((w1.setCell ⟨w.heap.size + 1 + 1, 0, none⟩ (.bool u1.num.g)).setCell ⟨w.heap.size + 1 + 1, 1, none⟩ (.slice u1.num.a u1.num.n u1.num.c)).setCell ⟨w.heap.size + 1 + 1, 2, none⟩ (.bool u1.den.g)).setCell ⟨w.heap.size + 1 + 1, 3, none⟩ (.slice u1.den.a u1.den.n u1.den.c)) := (((((But.refl _ _ _).set (p := ⟨w.heap.size + 1 + 1, 0, none⟩) (Nat.le_refl _) (by show w.heap.size + 1 + 1 < w.heap.size + 3; omega) _).set (p := ⟨w.heap.size + 1 + 1, 1, none⟩) (Nat.le_refl _) (by show w.heap.size + 1 + 1 < w.heap.size + 3; omega) _).set (p := ⟨w.heap.size + 1 + 1, 2, none⟩) (Nat.le_refl _) (by show w.heap.size + 1 + 1 < w.heap.size + 3; omega) _).set (p := ⟨w.heap.size + 1 + 1, 3, none⟩) (Nat.le_refl _) (by show w.heap.size + 1 + 1 < w.heap.size + 3; omega) _)
  have ow1 : AllOwn (w.heap.size + 3) w1.heap.size w2 [(u1.num, d.lo.num), (u1.den, d.lo.den)] := ((unhide O1).1.but bt (.inr (Nat.le_refl _))).later hb2
  have ar1 : AllAr w2 [(u1.num, d.lo.num), (u1.den, d.lo.den)] := fun p hp => ⟨((unhide O1).2.1 p hp).sg, ⟨(ow1.sl p hp).sl, ((unhide O1).2.1 p hp).ar.len, ((unhide O1).2.1 p hp).ar.cap, ((unhide O1).2.1 p hp).ar.top, ((unhide O1).2.1 p hp).ar.addr⟩⟩
  have hs2 : w1.heap.size ≤ w2.heap.size := by have := hb2.size; rw [hsz] at this; exact this
  have s0 : w2.cell? ⟨w.heap.size + 1 + 1, 0, none⟩ = some (.bool u1.num.g) := cell_later hb2 (by simp [go_sem, r0, r1, r2, r3, r4, r5, r6, r7])
  have s1 : w2.cell? ⟨w.heap.size + 1 + 1, 1, none⟩ = some (.slice u1.num.a u1.num.n u1.num.c) := cell_later hb2 (by simp [go_sem, r0, r1, r2, r3, r4, r5, r6, r7])
  have s2 : w2.cell? ⟨w.heap.size + 1 + 1, 2, none⟩ = some (.bool u1.den.g) := cell_later hb2 (by simp [go_sem, r0, r1, r2, r3, r4, r5, r6, r7])
  have s3 : w2.cell? ⟨w.heap.size + 1 + 1, 3, none⟩ = some (.slice u1.den.a u1.den.n u1.den.c) := cell_later hb2 (by simp [go_sem, r0, r1, r2, r3, r4, r5, r6, r7])
  have s4 : w2.cell? ⟨w.heap.size + 1 + 1, 4, none⟩ = some (.bool false) := cell_later hb2 (by simp [go_sem, r4])
  have s5 : w2.cell? ⟨w.heap.size + 1 + 1, 5, none⟩ = some (.slice none 0 0) := cell_later hb2 (by simp [go_sem, r5])
  have s6 : w2.cell? ⟨w.heap.size + 1 + 1, 6, none⟩ = some (.bool false) := cell_later hb2 (by simp [go_sem, r6])
  have s7 : w2.cell? ⟨w.heap.size + 1 + 1, 7, none⟩ = some (.slice none 0 0) := cell_later hb2 (by simp [go_sem, r7])
  have t0 : w2.cell? ⟨w.heap.size + 1, 0, none⟩ = some (.bool false) := cell_later hb2 (by simp [go_sem, q0])
  have t1 : w2.cell? ⟨w.heap.size + 1, 1, none⟩ = some (.slice none 0 0) := cell_later hb2 (by simp [go_sem, q1])
  have t2 : w2.cell? ⟨w.heap.size + 1, 2, none⟩ = some (.bool false) := cell_later hb2 (by simp [go_sem, q2])
  have t3 : w2.cell? ⟨w.heap.size + 1, 3, none⟩ = some (.slice none 0 0) := cell_later hb2 (by simp [go_sem, q3])
  have t4 : w2.cell? ⟨w.heap.size + 1, 4, none⟩ = some (.bool false) := cell_later hb2 (by simp [go_sem, q4])
  have t5 : w2.cell? ⟨w.heap.size + 1, 5, none⟩ = some (.slice none 0 0) := cell_later hb2 (by simp [go_sem, q5])
  have t6 : w2.cell? ⟨w.heap.size + 1, 6, none⟩ = some (.bool false) := cell_later hb2 (by simp [go_sem, q6])
  have t7 : w2.cell? ⟨w.heap.size + 1, 7, none⟩ = some (.slice none 0 0) := cell_later hb2 (by simp [go_sem, q7])
  have f3 : ∀ o, w2.frozen? ⟨w.heap.size + 1, o, none⟩ = false := fun o => frozen_later hb2 (by rw [hsz]; omega) (by simp [go_sem, f1])
  have f4 : ∀ o, w2.frozen? ⟨w.heap.size + 1 + 1, o, none⟩ = false := fun o => frozen_later hb2 (by rw [hsz]; omega) (by simp [go_sem, f2])
  have HO := hide (And.intro (ow1.join ow2' hs1 hs2) (And.intro ar1 (And.intro ar2 (And.intro (unhide O1).2.2 hn2))))
  have HB2 := hide (below_on B1' hb2)
  clear ow1 ow2 ow2' ar1 ar2 hn2 hb2 bt B1' y4 y5 y6 y7 q0 r0 q1 r1 q2 r2 q3 r3 q4 r4 q5 r5 q6 r6 q7 r7 f1 f2 O1 HB1 hsz
  go_wp2
  have hlt : (w.heap.size ≤ w.heap.size + 1 + 1) ∧ (w.heap.size ≤ w.heap.size + 1) ∧ (w.heap.size + 1 + 1 < w.heap.size + 3) ∧ (w.heap.size + 1 < w.heap.size + 3) ∧ (w.heap.size + 1 ≤ w.heap.size + 1 + 1) := by omega
  have bt : But (w.heap.size + 1) (w.heap.size + 3) w2 ((((((((((((w2.setCell ⟨w.heap.size + 1 + 1, 4, none⟩ (.bool u2.num.g)).setCell ⟨w.heap.size + 1 + 1, 5, none⟩ (.slice u2.num.a u2.num.n u2.num.c)).setCell ⟨w.heap.size + 1 + 1, 6, none⟩ (.bool u2.den.g)).setCell ⟨w.heap.size + 1 + 1, 7, none⟩ (.slice u2.den.a u2.den.n u2.den.c)).setCell ⟨w.heap.size + 1, 0, none⟩ (.bool u1.num.g)).setCell ⟨w.heap.size + 1, 1, none⟩ (.slice u1.num.a u1.num.n u1.num.c)).setCell ⟨w.heap.size + 1, 2, none⟩ (.bool u1.den.g)).setCell ⟨w.heap.size + 1, 3, none⟩ (.slice u1.den.a u1.den.n u1.den.c)).setCell ⟨w.heap.size + 1, 4, none⟩ (.bool u2.num.g)).setCell ⟨w.heap.size + 1, 5, none⟩ (.slice u2.num.a u2.num.n u2.num.c)).setCell ⟨w.heap.size + 1, 6, none⟩ (.bool u2.den.g)).setCell ⟨w.heap.size + 1, 7, none⟩ (.slice u2.den.a u2.den.n u2.den.c)) := by
    refine ((((((((((((But.refl _ _ _).set (p := ⟨w.heap.size + 1 + 1, 4, none⟩) ?_ ?_ _).set (p := ⟨w.heap.size + 1 + 1, 5, none⟩) ?_ ?_ _).set (p := ⟨w.heap.size + 1 + 1, 6, none⟩) ?_ ?_ _).set (p := ⟨w.heap.size + 1 + 1, 7, none⟩) ?_ ?_ _).set (p := ⟨w.heap.size + 1, 0, none⟩) ?_ ?_ _).set (p := ⟨w.heap.size + 1, 1, none⟩) ?_ ?_ _).set (p := ⟨w.heap.size + 1, 2, none⟩) ?_ ?_ _).set (p := ⟨w.heap.size + 1, 3, none⟩) ?_ ?_ _).set (p := ⟨w.heap.size + 1, 4, none⟩) ?_ ?_ _).set (p := ⟨w.heap.size + 1, 5, none⟩) ?_ ?_ _).set (p := ⟨w.heap.size + 1, 6, none⟩) ?_ ?_ _).set (p := ⟨w.heap.size + 1, 7, none⟩) ?_ ?_ _ <;> first | exact hlt.1 | exact hlt.2.1 | exact hlt.2.2.1 | exact hlt.2.2.2.1 | exact hlt.2.2.2.2 | exact Nat.le_refl _
  refine bodyPost_ret (v := .agg #[.bool u1.num.g, .slice u1.num.a u1.num.n u1.num.c, .bool u1.den.g, .slice u1.den.a u1.den.n u1.den.c, .bool u2.num.g, .slice u2.num.a u2.num.n u2.num.c, .bool u2.den.g, .slice u2.den.a u2.den.n u2.den.c]) (by simp [results, Try.results36, go_sem, s0, t0, s1, t1, s2, t2, s3, t3, s4, t4, s5, t5, s6, t6, s7, t7]) rfl ⟨⟨u1, u2⟩, rfl, bt.below (unhide HB2) (Nat.le_succ _) (unhide HB2).size, ?_, ?_, ?_⟩
  · have q := (unhide HO).2.2.2
    exact ⟨q.1.1, q.1.2, q.2.1, q.2.2⟩
  · exact ((unhide HO).1.but bt (.inr (Nat.le_refl _))).wide (by omega) bt.size
  · have oo := ((unhide HO).1.but bt (.inr (Nat.le_refl _))).sl
    have aa := (unhide HO).2.1.append (unhide HO).2.2.1
    exact fun p hp => ⟨(aa p hp).sg, ⟨(oo p hp).sl, (aa p hp).ar.len, (aa p hp).ar.cap, (aa p hp).ar.top, (aa p hp).ar.addr⟩⟩

set_option maxHeartbeats 1000000 in
theorem eqS_at (v v' : SV) (d : SD) (w : World) (h : AllSl w [(v.lo.num, d.lo.num), (v.lo.den, d.lo.den), (v.hi.num, d.hi.num), (v.hi.den, d.hi.den)]) (h' : AllSl w [(v'.lo.num, d.lo.num), (v'.lo.den, d.lo.den), (v'.hi.num, d.hi.num), (v'.hi.den, d.hi.den)]) (hm0 : v.lo.num.n ≤ maxLen) (hm1 : v.lo.den.n ≤ maxLen) (hm2 : v.hi.num.n ≤ maxLen) (hm3 : v.hi.den.n ≤ maxLen) :
    Calls Try.prog 38 #[.agg #[.bool v.lo.num.g, .slice v.lo.num.a v.lo.num.n v.lo.num.c, .bool v.lo.den.g, .slice v.lo.den.a v.lo.den.n v.lo.den.c, .bool v.hi.num.g, .slice v.hi.num.a v.hi.num.n v.hi.num.c, .bool v.hi.den.g, .slice v.hi.den.a v.hi.den.n v.hi.den.c], .agg #[.bool v'.lo.num.g, .slice v'.lo.num.a v'.lo.num.n v'.lo.num.c, .bool v'.lo.den.g, .slice v'.lo.den.a v'.lo.den.n v'.lo.den.c, .bool v'.hi.num.g, .slice v'.hi.num.a v'.hi.num.n v'.hi.num.c, .bool v'.hi.den.g, .slice v'.hi.den.a v'.hi.den.n v'.hi.den.c]] w fun e w' => e = .returned (.bool true) ∧ Below w.heap.size w w' := by
  have HX := hide h
  have HX' := hide h'
  clear h h'
  have B2 := hide (below_two w (.cells #[.bool v.lo.num.g, .slice v.lo.num.a v.lo.num.n v.lo.num.c, .bool v.lo.den.g, .slice v.lo.den.a v.lo.den.n v.lo.den.c, .bool v.hi.num.g, .slice v.hi.num.a v.hi.num.n v.hi.num.c, .bool v.hi.den.g, .slice v.hi.den.a v.hi.den.n v.hi.den.c] 41) (.cells #[.bool v'.lo.num.g, .slice v'.lo.num.a v'.lo.num.n v'.lo.num.c, .bool v'.lo.den.g, .slice v'.lo.den.a v'.lo.den.n v'.lo.den.c, .bool v'.hi.num.g, .slice v'.hi.num.a v'.hi.num.n v'.hi.num.c, .bool v'.hi.den.g, .slice v'.hi.den.a v'.hi.den.n v'.hi.den.c] 41))
  go_enter Try.func38, Try.ntmps38
  go_wp2_with fail
  refine (eqQ_at v.lo v'.lo d.lo _ ((unhide HX).Sl.later (unhide B2)) ((unhide HX').Sl.later (unhide B2)) hm0 hm1).mono ?_
  rintro e w1 ⟨rfl, hb1⟩
  have x4 : w1.cell? ⟨w.heap.size, 4, none⟩ = some (.bool v.hi.num.g) := cell_later hb1 (by simp [go_sem])
  have x5 : w1.cell? ⟨w.heap.size, 5, none⟩ = some (.slice v.hi.num.a v.hi.num.n v.hi.num.c) := cell_later hb1 (by simp [go_sem])
  have x6 : w1.cell? ⟨w.heap.size, 6, none⟩ = some (.bool v.hi.den.g) := cell_later hb1 (by simp [go_sem])
  have x7 : w1.cell? ⟨w.heap.size, 7, none⟩ = some (.slice v.hi.den.a v.hi.den.n v.hi.den.c) := cell_later hb1 (by simp [go_sem])
  have y4 : w1.cell? ⟨w.heap.size + 1, 4, none⟩ = some (.bool v'.hi.num.g) := cell_later hb1 (by simp [go_sem])
  have y5 : w1.cell? ⟨w.heap.size + 1, 5, none⟩ = some (.slice v'.hi.num.a v'.hi.num.n v'.hi.num.c) := cell_later hb1 (by simp [go_sem])
  have y6 : w1.cell? ⟨w.heap.size + 1, 6, none⟩ = some (.bool v'.hi.den.g) := cell_later hb1 (by simp [go_sem])
  have y7 : w1.cell? ⟨w.heap.size + 1, 7, none⟩ = some (.slice v'.hi.den.a v'.hi.den.n v'.hi.den.c) := cell_later hb1 (by simp [go_sem])
  have HB := hide (below_two' hb1)
  clear hb1
  go_wp2_with fail
  refine (eqQ_at v.hi v'.hi d.hi _ ((unhide HX).Sr.later (unhide HB)) ((unhide HX').Sr.later (unhide HB)) hm2 hm3).mono ?_
  rintro e w2 ⟨rfl, hb2⟩
  have HB2 := hide (below_on (unhide HB) hb2)
  clear hb2
  go_wp2
  go_ret
  exact ⟨rfl, unhide HB2⟩

theorem re_assocS {lo hi : Nat} {w : World} {pre post xs ys : List (BV × BD)} (h : AllOwn lo hi w (pre ++ (xs ++ (ys ++ post)))) : AllOwn lo hi w ((pre ++ xs) ++ (ys ++ post)) := by rw [List.append_assoc]; exact h
set_option maxHeartbeats 1000000 in
theorem markS_at (v : SV) (d : SD) (pre post : List (BV × BD)) (k : Int) (lo hi : Nat) (w : World) (h : AllOwn lo hi w (pre ++ (v.lo.num, d.lo.num) :: (v.lo.den, d.lo.den) :: (v.hi.num, d.hi.num) :: (v.hi.den, d.hi.den) :: post)) (h1 : v.lo.num.n ≤ 1048576) (h2 : v.lo.den.n ≤ 1048576) (h3 : v.hi.num.n ≤ 1048576) (h4 : v.hi.den.n ≤ 1048576) (hh : hi ≤ w.heap.size) (k0 : 0 ≤ k) (k1 : k + (v.lo.num.n : Int) + (v.lo.den.n : Int) + (v.hi.num.n : Int) + (v.hi.den.n : Int) ≤ 4000000) :
    Calls Try.prog 39 #[.agg #[.bool v.lo.num.g, .slice v.lo.num.a v.lo.num.n v.lo.num.c, .bool v.lo.den.g, .slice v.lo.den.a v.lo.den.n v.lo.den.c, .bool v.hi.num.g, .slice v.hi.num.a v.hi.num.n v.hi.num.c, .bool v.hi.den.g, .slice v.hi.den.a v.hi.den.n v.hi.den.c], .int .i64 k] w fun e w' => e = .returned (.int .i64 (k + (v.lo.num.n : Int) + (v.lo.den.n : Int) + (v.hi.num.n : Int) + (v.hi.den.n : Int))) ∧ But lo hi w w' ∧ AllOwn lo hi w' (pre ++ (v.lo.num, ⟨d.lo.num.g, marks (k) v.lo.num.n⟩) :: (v.lo.den, ⟨d.lo.den.g, marks (k + v.lo.num.n) v.lo.den.n⟩) :: (v.hi.num, ⟨d.hi.num.g, marks (k + v.lo.num.n + v.lo.den.n) v.hi.num.n⟩) :: (v.hi.den, ⟨d.hi.den.g, marks (k + v.lo.num.n + v.lo.den.n + v.hi.num.n) v.hi.den.n⟩) :: post) := by
  have HO := hide h
  clear h
  have HB := hide (show ∀ o, Below w.heap.size w (w.alloc o) from fun o => (Below.refl _ _).alloc (Nat.le_refl _) _)
  have y : (w.alloc (.cells #[.bool v.lo.num.g, .slice v.lo.num.a v.lo.num.n v.lo.num.c, .bool v.lo.den.g, .slice v.lo.den.a v.lo.den.n v.lo.den.c, .bool v.hi.num.g, .slice v.hi.num.a v.hi.num.n v.hi.num.c, .bool v.hi.den.g, .slice v.hi.den.a v.hi.den.n v.hi.den.c] 41)).cell? ⟨w.heap.size, 4, none⟩ = some (.bool v.hi.num.g) ∧ (w.alloc (.cells #[.bool v.lo.num.g, .slice v.lo.num.a v.lo.num.n v.lo.num.c, .bool v.lo.den.g, .slice v.lo.den.a v.lo.den.n v.lo.den.c, .bool v.hi.num.g, .slice v.hi.num.a v.hi.num.n v.hi.num.c, .bool v.hi.den.g, .slice v.hi.den.a v.hi.den.n v.hi.den.c] 41)).cell? ⟨w.heap.size, 5, none⟩ = some (.slice v.hi.num.a v.hi.num.n v.hi.num.c) ∧ (w.alloc (.cells #[.bool v.lo.num.g, .slice v.lo.num.a v.lo.num.n v.lo.num.c, .bool v.lo.den.g, .slice v.lo.den.a v.lo.den.n v.lo.den.c, .bool v.hi.num.g, .slice v.hi.num.a v.hi.num.n v.hi.num.c, .bool v.hi.den.g, .slice v.hi.den.a v.hi.den.n v.hi.den.c] 41)).cell? ⟨w.heap.size, 6, none⟩ = some (.bool v.hi.den.g) ∧ (w.alloc (.cells #[.bool v.lo.num.g, .slice v.lo.num.a v.lo.num.n v.lo.num.c, .bool v.lo.den.g, .slice v.lo.den.a v.lo.den.n v.lo.den.c, .bool v.hi.num.g, .slice v.hi.num.a v.hi.num.n v.hi.num.c, .bool v.hi.den.g, .slice v.hi.den.a v.hi.den.n v.hi.den.c] 41)).cell? ⟨w.heap.size, 7, none⟩ = some (.slice v.hi.den.a v.hi.den.n v.hi.den.c) := by refine ⟨?_, ?_, ?_, ?_⟩ <;> simp [go_sem]
  go_enter Try.func39, Try.ntmps39
  go_wp2_with fail
  refine (markQ_at v.lo d.lo pre ((v.hi.num, d.hi.num) :: (v.hi.den, d.hi.den) :: post) k lo hi _ ((unhide HO).later (unhide HB _)) h1 h2 (by simp; omega) k0 (by omega)).mono ?_
  rintro e w1 ⟨rfl, hb, ho⟩
  have HF := hide (And.intro ((But.of_below (unhide HB _)).trans hb) ho)
  obtain ⟨y4, y5, y6, y7⟩ := y
  have hz1 : hi ≤ w1.heap.size := by have := hb.size; simp at this; omega
  replace y4 := hb.cell y4 (.inr hh)
  replace y5 := hb.cell y5 (.inr hh)
  replace y6 := hb.cell y6 (.inr hh)
  replace y7 := hb.cell y7 (.inr hh)
  clear hb ho
  go_wp2_with fail
  refine (markQ_at v.hi d.hi (pre ++ [(v.lo.num, ⟨d.lo.num.g, marks (k) v.lo.num.n⟩), (v.lo.den, ⟨d.lo.den.g, marks (k + v.lo.num.n) v.lo.den.n⟩)]) post _ lo hi w1 (re_assocS (xs := [(v.lo.num, ⟨d.lo.num.g, marks (k) v.lo.num.n⟩), (v.lo.den, ⟨d.lo.den.g, marks (k + v.lo.num.n) v.lo.den.n⟩)]) (ys := [(v.hi.num, d.hi.num), (v.hi.den, d.hi.den)]) (unhide HF).2) h3 h4 hz1 (by omega) (by omega)).mono ?_
  rintro e w2 ⟨rfl, hb2, ho2⟩
  have HF2 := hide (And.intro ((unhide HF).1.trans hb2) ho2)
  clear hb2 ho2
  go_wp2
  go_ret
  refine ⟨rfl, (unhide HF2).1, ?_⟩
  have := (unhide HF2).2
  rw [List.append_assoc] at this
  exact this

end Go.Proofs.Ytlmeokeanihhoaa
namespace Go.Proofs.Ytlmeokeanihhoaa
open Go.RowKit
set_option linter.unusedVariables false
set_option maxRecDepth 100000
set_option linter.unusedSimpArgs false

/-- -1, 0 or 1. -/
def cmpZ (A B : Int) : Int := if A < B then -1 else if B < A then 1 else 0
theorem cmpTop_range (xs ys : List Int) (k : Nat) : cmpTop xs ys k = -1 ∨ cmpTop xs ys k = 0 ∨ cmpTop xs ys k = 1 := by
  induction k with
  | zero => right; left; rfl
  | succ k ih =>
    unfold cmpTop
    split
    · left; rfl
    · split
      · right; right; rfl
      · exact ih
theorem cmpL_range (xs ys : List Int) : cmpL xs ys = -1 ∨ cmpL xs ys = 0 ∨ cmpL xs ys = 1 := by
  unfold cmpL
  split
  · left; rfl
  · split
    · right; right; rfl
    · exact cmpTop_range _ _ _
theorem cmpB_val {A B : Int} {ts us : List Int} (h : Nm ts A.natAbs) (k : Nm us B.natAbs) : cmpB (decide (A < 0)) ts (decide (B < 0)) us = cmpZ A B := by
  have h1 := cmpL_val h.ok k.ok h.tr k.tr
  have h2 := cmpL_val k.ok h.ok k.tr h.tr
  have r1 := cmpL_range ts us
  have r2 := cmpL_range us ts
  rw [h.v, k.v] at h1 h2
  unfold cmpB cmpZ
  by_cases a : A < 0 <;> by_cases b : B < 0
  · rw [decide_eq_true a, decide_eq_true b, if_pos rfl, if_pos rfl]
    split
    · omega
    · split <;> omega
  · rw [decide_eq_true a, decide_eq_false b, if_neg (by simp), if_pos rfl, if_pos (by omega)]
  · rw [decide_eq_false a, decide_eq_true b, if_neg (by simp), if_neg (by simp), if_neg (by omega), if_pos (by omega)]
  · rw [decide_eq_false a, decide_eq_false b, if_pos rfl, if_neg (by simp)]
    split
    · omega
    · split <;> omega
theorem cmpI_v (b b' : BV) (V V' : Int) (w : World) (h : IsB w b V) (h' : IsB w b' V') :
    Calls Try.prog 200 #[.agg #[.bool b.g, .slice b.a b.n b.c], .agg #[.bool b'.g, .slice b'.a b'.n b'.c]] w fun e w' => e = .returned (.int .i64 (cmpZ V V')) ∧ Below w.heap.size w w' := by
  obtain ⟨xs, h1, n1⟩ := h
  obtain ⟨ys, h2, n2⟩ := h'
  refine (cmpBI_any b.g b'.g b.a b'.a b.n b'.n b.c b'.c xs ys w h1.ar.sl h2.ar.sl h1.ar.len h2.ar.len (Nat.le_trans h1.ar.cap h1.ar.top) (Nat.le_trans h2.ar.cap h2.ar.top)).mono ?_
  rintro e w' ⟨rfl, hb⟩
  exact ⟨by rw [h1.sg, h2.sg, cmpB_val n1 n2], hb⟩
theorem cmpS_v (b b' : BV) (V V' : Int) (w : World) (h : IsB w b V) (h' : IsB w b' V') :
    Calls Try.prog 152 #[.agg #[.bool b.g, .slice b.a b.n b.c], .agg #[.bool b'.g, .slice b'.a b'.n b'.c]] w fun e w' => e = .returned (.int .i64 (cmpZ V V')) ∧ Below w.heap.size w w' := by
  obtain ⟨xs, h1, n1⟩ := h
  obtain ⟨ys, h2, n2⟩ := h'
  refine (cmpBS_any b.g b'.g b.a b'.a b.n b'.n b.c b'.c xs ys w h1.ar.sl h2.ar.sl h1.ar.len h2.ar.len (Nat.le_trans h1.ar.cap h1.ar.top) (Nat.le_trans h2.ar.cap h2.ar.top)).mono ?_
  rintro e w' ⟨rfl, hb⟩
  exact ⟨by rw [h1.sg, h2.sg, cmpB_val n1 n2], hb⟩

set_option maxHeartbeats 4000000 in
theorem cmpQI (q q' : QV) (N D N' D' : Int) (w : World) (h : IsQ w q N D) (h' : IsQ w q' N' D') (k1 : Bd N 200000) (k2 : Bd D 200000) (k3 : Bd N' 200000) (k4 : Bd D' 200000) :
    Calls Try.prog 158 #[.agg #[.bool q.num.g, .slice q.num.a q.num.n q.num.c, .bool q.den.g, .slice q.den.a q.den.n q.den.c], .agg #[.bool q'.num.g, .slice q'.num.a q'.num.n q'.num.c, .bool q'.den.g, .slice q'.den.a q'.den.n q'.den.c]] w fun e w' => e = .returned (.int .i64 (cmpZ (N * D') (N' * D))) ∧ Below w.heap.size w w' := by
  have H1 := hide h
  have H2 := hide h'
  have K1 := hide (k1.mono (show 200000 ≤ 400000 by omega))
  have K2 := hide (k2.mono (show 200000 ≤ 400000 by omega))
  have K3 := hide (k3.mono (show 200000 ≤ 400000 by omega))
  have K4 := hide (k4.mono (show 200000 ≤ 400000 by omega))
  clear h h' k1 k2 k3 k4
  go_enter Try.func158, Try.ntmps158
  go_upto_region 1 with fail
  have hb : Below w.heap.size w ((w.alloc (.cells #[.bool q.num.g, .slice q.num.a q.num.n q.num.c, .bool q.den.g, .slice q.den.a q.den.n q.den.c] 30)).alloc (.cells #[.bool q'.num.g, .slice q'.num.a q'.num.n q'.num.c, .bool q'.den.g, .slice q'.den.a q'.den.n q'.den.c] 30)) := (((Below.refl _ _).alloc (by simp) _).alloc (by simp) _)
  have k0_0 : ((w.alloc (.cells #[.bool q.num.g, .slice q.num.a q.num.n q.num.c, .bool q.den.g, .slice q.den.a q.den.n q.den.c] 30)).alloc (.cells #[.bool q'.num.g, .slice q'.num.a q'.num.n q'.num.c, .bool q'.den.g, .slice q'.den.a q'.den.n q'.den.c] 30)).cell? ⟨w.heap.size, 0, none⟩ = some (.bool q.num.g) := by simp [go_sem]
  have k0_1 : ((w.alloc (.cells #[.bool q.num.g, .slice q.num.a q.num.n q.num.c, .bool q.den.g, .slice q.den.a q.den.n q.den.c] 30)).alloc (.cells #[.bool q'.num.g, .slice q'.num.a q'.num.n q'.num.c, .bool q'.den.g, .slice q'.den.a q'.den.n q'.den.c] 30)).cell? ⟨w.heap.size, 1, none⟩ = some (.slice q.num.a q.num.n q.num.c) := by simp [go_sem]
  have k0_2 : ((w.alloc (.cells #[.bool q.num.g, .slice q.num.a q.num.n q.num.c, .bool q.den.g, .slice q.den.a q.den.n q.den.c] 30)).alloc (.cells #[.bool q'.num.g, .slice q'.num.a q'.num.n q'.num.c, .bool q'.den.g, .slice q'.den.a q'.den.n q'.den.c] 30)).cell? ⟨w.heap.size, 2, none⟩ = some (.bool q.den.g) := by simp [go_sem]
  have k0_3 : ((w.alloc (.cells #[.bool q.num.g, .slice q.num.a q.num.n q.num.c, .bool q.den.g, .slice q.den.a q.den.n q.den.c] 30)).alloc (.cells #[.bool q'.num.g, .slice q'.num.a q'.num.n q'.num.c, .bool q'.den.g, .slice q'.den.a q'.den.n q'.den.c] 30)).cell? ⟨w.heap.size, 3, none⟩ = some (.slice q.den.a q.den.n q.den.c) := by simp [go_sem]
  have k1_0 : ((w.alloc (.cells #[.bool q.num.g, .slice q.num.a q.num.n q.num.c, .bool q.den.g, .slice q.den.a q.den.n q.den.c] 30)).alloc (.cells #[.bool q'.num.g, .slice q'.num.a q'.num.n q'.num.c, .bool q'.den.g, .slice q'.den.a q'.den.n q'.den.c] 30)).cell? ⟨w.heap.size + 1, 0, none⟩ = some (.bool q'.num.g) := by simp [go_sem]
  have k1_1 : ((w.alloc (.cells #[.bool q.num.g, .slice q.num.a q.num.n q.num.c, .bool q.den.g, .slice q.den.a q.den.n q.den.c] 30)).alloc (.cells #[.bool q'.num.g, .slice q'.num.a q'.num.n q'.num.c, .bool q'.den.g, .slice q'.den.a q'.den.n q'.den.c] 30)).cell? ⟨w.heap.size + 1, 1, none⟩ = some (.slice q'.num.a q'.num.n q'.num.c) := by simp [go_sem]
  have k1_2 : ((w.alloc (.cells #[.bool q.num.g, .slice q.num.a q.num.n q.num.c, .bool q.den.g, .slice q.den.a q.den.n q.den.c] 30)).alloc (.cells #[.bool q'.num.g, .slice q'.num.a q'.num.n q'.num.c, .bool q'.den.g, .slice q'.den.a q'.den.n q'.den.c] 30)).cell? ⟨w.heap.size + 1, 2, none⟩ = some (.bool q'.den.g) := by simp [go_sem]
  have k1_3 : ((w.alloc (.cells #[.bool q.num.g, .slice q.num.a q.num.n q.num.c, .bool q.den.g, .slice q.den.a q.den.n q.den.c] 30)).alloc (.cells #[.bool q'.num.g, .slice q'.num.a q'.num.n q'.num.c, .bool q'.den.g, .slice q'.den.a q'.den.n q'.den.c] 30)).cell? ⟨w.heap.size + 1, 3, none⟩ = some (.slice q'.den.a q'.den.n q'.den.c) := by simp [go_sem]
  have Q1 := hide ((unhide H1).later hb)
  have Q2 := hide ((unhide H2).later hb)
  have szw0 : w.heap.size + 2 ≤ ((w.alloc (.cells #[.bool q.num.g, .slice q.num.a q.num.n q.num.c, .bool q.den.g, .slice q.den.a q.den.n q.den.c] 30)).alloc (.cells #[.bool q'.num.g, .slice q'.num.a q'.num.n q'.num.c, .bool q'.den.g, .slice q'.den.a q'.den.n q'.den.c] 30)).heap.size := by simp
  have HB := hide hb
  clear hb
  generalize ((w.alloc (.cells #[.bool q.num.g, .slice q.num.a q.num.n q.num.c, .bool q.den.g, .slice q.den.a q.den.n q.den.c] 30)).alloc (.cells #[.bool q'.num.g, .slice q'.num.a q'.num.n q'.num.c, .bool q'.den.g, .slice q'.den.a q'.den.n q'.den.c] 30)) = w0 at *
  go_region_held3 (fun w' => w'.cell? ⟨w.heap.size, 0, none⟩ = some (.bool q.num.g) ∧ w'.cell? ⟨w.heap.size, 1, none⟩ = some (.slice q.num.a q.num.n q.num.c) ∧ w'.cell? ⟨w.heap.size, 2, none⟩ = some (.bool q.den.g) ∧ w'.cell? ⟨w.heap.size, 3, none⟩ = some (.slice q.den.a q.den.n q.den.c) ∧ w'.cell? ⟨w.heap.size + 1, 0, none⟩ = some (.bool q'.num.g) ∧ w'.cell? ⟨w.heap.size + 1, 1, none⟩ = some (.slice q'.num.a q'.num.n q'.num.c) ∧ w'.cell? ⟨w.heap.size + 1, 2, none⟩ = some (.bool q'.den.g) ∧ w'.cell? ⟨w.heap.size + 1, 3, none⟩ = some (.slice q'.den.a q'.den.n q'.den.c)) (with_reducible (first | exact ⟨k0_0, k0_1, k0_2, k0_3, k1_0, k1_1, k1_2, k1_3⟩ | exact ⟨cd_other k0_0, cd_other k0_1, cd_other k0_2, cd_other k0_3, cd_other k1_0, cd_other k1_1, cd_other k1_2, cd_other k1_3⟩ | fail))
    (first
    | (go_at_call_of 147 (Value.agg #[Value.bool q.num.g, Value.slice q.num.a q.num.n q.num.c]); refine (mulI_v q.num q'.den N D' _ ?_ ?_ (unhide K1) (unhide K4)).mono ?_; exact (unhide Q1).1.later (Below.refl _ _).drew; exact (unhide Q2).2.later (Below.refl _ _).drew; rintro e w1 ⟨x1, lx1, rfl, hb, ox1, ax1, nx1⟩; have hbx : Below w0.heap.size w0 w1 := below_of_drew hb; have szw1 := hbx.size; replace k0_0 := cell_later hbx k0_0; replace k0_1 := cell_later hbx k0_1; replace k0_2 := cell_later hbx k0_2; replace k0_3 := cell_later hbx k0_3; replace k1_0 := cell_later hbx k1_0; replace k1_1 := cell_later hbx k1_1; replace k1_2 := cell_later hbx k1_2; replace k1_3 := cell_later hbx k1_3; replace Q1 := hide ((unhide Q1).later hbx); replace Q2 := hide ((unhide Q2).later hbx); have Px1 := hide (outN_ow ox1 ax1 nx1); have HBr := hide hbx; clear hbx hb ox1 ax1 nx1)
    | (go_at_call_of 147 (Value.agg #[Value.bool q'.num.g, Value.slice q'.num.a q'.num.n q'.num.c]); refine (mulI_v q'.num q.den N' D _ ?_ ?_ (unhide K3) (unhide K2)).mono ?_; exact (unhide Q2).1.later (Below.refl _ _); exact (unhide Q1).2.later (Below.refl _ _); rintro e w2 ⟨x2, lx2, rfl, hb, ox2, ax2, nx2⟩; have hbx : Below w1.heap.size w1 w2 := hb; have szw2 := hbx.size; replace k0_0 := cell_later hbx k0_0; replace k0_1 := cell_later hbx k0_1; replace k0_2 := cell_later hbx k0_2; replace k0_3 := cell_later hbx k0_3; replace k1_0 := cell_later hbx k1_0; replace k1_1 := cell_later hbx k1_1; replace k1_2 := cell_later hbx k1_2; replace k1_3 := cell_later hbx k1_3; replace Q1 := hide ((unhide Q1).later hbx); replace Q2 := hide ((unhide Q2).later hbx); replace Px1 := hide ((unhide Px1).later hbx); have Px2 := hide (outN_ow ox2 ax2 nx2); have HBr := hide (below_on (unhide HBr) hbx); clear hbx hb ox2 ax2 nx2)
    | (go_at_call 200; refine (cmpI_v x1 x2 (N * D') (N' * D) _ ?_ ?_).mono ?_; exact (unhide Px1).is.later (Below.refl _ _); exact (unhide Px2).is.later (Below.refl _ _); rintro e w3 ⟨rfl, hb⟩; have hbx : Below w2.heap.size w2 w3 := hb; have szw3 := hbx.size; replace k0_0 := cell_later hbx k0_0; replace k0_1 := cell_later hbx k0_1; replace k0_2 := cell_later hbx k0_2; replace k0_3 := cell_later hbx k0_3; replace k1_0 := cell_later hbx k1_0; replace k1_1 := cell_later hbx k1_1; replace k1_2 := cell_later hbx k1_2; replace k1_3 := cell_later hbx k1_3; replace Q1 := hide ((unhide Q1).later hbx); replace Q2 := hide ((unhide Q2).later hbx); replace Px1 := hide ((unhide Px1).later hbx); replace Px2 := hide ((unhide Px2).later hbx); have HBr := hide (below_on (unhide HBr) hbx); clear hbx hb))
  replace HB := hide (below_on (unhide HB) (unhide HBr))
  clear HBr
  go_wp2
  go_ret
  exact ⟨rfl, unhide HB⟩

set_option maxHeartbeats 4000000 in
theorem cmpQS (q q' : QV) (N D N' D' : Int) (w : World) (h : IsQ w q N D) (h' : IsQ w q' N' D') (k1 : Bd N 200000) (k2 : Bd D 200000) (k3 : Bd N' 200000) (k4 : Bd D' 200000) :
    Calls Try.prog 92 #[.agg #[.bool q.num.g, .slice q.num.a q.num.n q.num.c, .bool q.den.g, .slice q.den.a q.den.n q.den.c], .agg #[.bool q'.num.g, .slice q'.num.a q'.num.n q'.num.c, .bool q'.den.g, .slice q'.den.a q'.den.n q'.den.c]] w fun e w' => e = .returned (.int .i64 (cmpZ (N * D') (N' * D))) ∧ Below w.heap.size w w' := by
  have H1 := hide h
  have H2 := hide h'
  have K1 := hide (k1.mono (show 200000 ≤ 400000 by omega))
  have K2 := hide (k2.mono (show 200000 ≤ 400000 by omega))
  have K3 := hide (k3.mono (show 200000 ≤ 400000 by omega))
  have K4 := hide (k4.mono (show 200000 ≤ 400000 by omega))
  clear h h' k1 k2 k3 k4
  go_enter Try.func92, Try.ntmps92
  go_upto_region 1 with fail
  have hb : Below w.heap.size w ((w.alloc (.cells #[.bool q.num.g, .slice q.num.a q.num.n q.num.c, .bool q.den.g, .slice q.den.a q.den.n q.den.c] 30)).alloc (.cells #[.bool q'.num.g, .slice q'.num.a q'.num.n q'.num.c, .bool q'.den.g, .slice q'.den.a q'.den.n q'.den.c] 30)) := (((Below.refl _ _).alloc (by simp) _).alloc (by simp) _)
  have k0_0 : ((w.alloc (.cells #[.bool q.num.g, .slice q.num.a q.num.n q.num.c, .bool q.den.g, .slice q.den.a q.den.n q.den.c] 30)).alloc (.cells #[.bool q'.num.g, .slice q'.num.a q'.num.n q'.num.c, .bool q'.den.g, .slice q'.den.a q'.den.n q'.den.c] 30)).cell? ⟨w.heap.size, 0, none⟩ = some (.bool q.num.g) := by simp [go_sem]
  have k0_1 : ((w.alloc (.cells #[.bool q.num.g, .slice q.num.a q.num.n q.num.c, .bool q.den.g, .slice q.den.a q.den.n q.den.c] 30)).alloc (.cells #[.bool q'.num.g, .slice q'.num.a q'.num.n q'.num.c, .bool q'.den.g, .slice q'.den.a q'.den.n q'.den.c] 30)).cell? ⟨w.heap.size, 1, none⟩ = some (.slice q.num.a q.num.n q.num.c) := by simp [go_sem]
  have k0_2 : ((w.alloc (.cells #[.bool q.num.g, .slice q.num.a q.num.n q.num.c, .bool q.den.g, .slice q.den.a q.den.n q.den.c] 30)).alloc (.cells #[.bool q'.num.g, .slice q'.num.a q'.num.n q'.num.c, .bool q'.den.g, .slice q'.den.a q'.den.n q'.den.c] 30)).cell? ⟨w.heap.size, 2, none⟩ = some (.bool q.den.g) := by simp [go_sem]
  have k0_3 : ((w.alloc (.cells #[.bool q.num.g, .slice q.num.a q.num.n q.num.c, .bool q.den.g, .slice q.den.a q.den.n q.den.c] 30)).alloc (.cells #[.bool q'.num.g, .slice q'.num.a q'.num.n q'.num.c, .bool q'.den.g, .slice q'.den.a q'.den.n q'.den.c] 30)).cell? ⟨w.heap.size, 3, none⟩ = some (.slice q.den.a q.den.n q.den.c) := by simp [go_sem]
  have k1_0 : ((w.alloc (.cells #[.bool q.num.g, .slice q.num.a q.num.n q.num.c, .bool q.den.g, .slice q.den.a q.den.n q.den.c] 30)).alloc (.cells #[.bool q'.num.g, .slice q'.num.a q'.num.n q'.num.c, .bool q'.den.g, .slice q'.den.a q'.den.n q'.den.c] 30)).cell? ⟨w.heap.size + 1, 0, none⟩ = some (.bool q'.num.g) := by simp [go_sem]
  have k1_1 : ((w.alloc (.cells #[.bool q.num.g, .slice q.num.a q.num.n q.num.c, .bool q.den.g, .slice q.den.a q.den.n q.den.c] 30)).alloc (.cells #[.bool q'.num.g, .slice q'.num.a q'.num.n q'.num.c, .bool q'.den.g, .slice q'.den.a q'.den.n q'.den.c] 30)).cell? ⟨w.heap.size + 1, 1, none⟩ = some (.slice q'.num.a q'.num.n q'.num.c) := by simp [go_sem]
  have k1_2 : ((w.alloc (.cells #[.bool q.num.g, .slice q.num.a q.num.n q.num.c, .bool q.den.g, .slice q.den.a q.den.n q.den.c] 30)).alloc (.cells #[.bool q'.num.g, .slice q'.num.a q'.num.n q'.num.c, .bool q'.den.g, .slice q'.den.a q'.den.n q'.den.c] 30)).cell? ⟨w.heap.size + 1, 2, none⟩ = some (.bool q'.den.g) := by simp [go_sem]
  have k1_3 : ((w.alloc (.cells #[.bool q.num.g, .slice q.num.a q.num.n q.num.c, .bool q.den.g, .slice q.den.a q.den.n q.den.c] 30)).alloc (.cells #[.bool q'.num.g, .slice q'.num.a q'.num.n q'.num.c, .bool q'.den.g, .slice q'.den.a q'.den.n q'.den.c] 30)).cell? ⟨w.heap.size + 1, 3, none⟩ = some (.slice q'.den.a q'.den.n q'.den.c) := by simp [go_sem]
  have Q1 := hide ((unhide H1).later hb)
  have Q2 := hide ((unhide H2).later hb)
  have szw0 : w.heap.size + 2 ≤ ((w.alloc (.cells #[.bool q.num.g, .slice q.num.a q.num.n q.num.c, .bool q.den.g, .slice q.den.a q.den.n q.den.c] 30)).alloc (.cells #[.bool q'.num.g, .slice q'.num.a q'.num.n q'.num.c, .bool q'.den.g, .slice q'.den.a q'.den.n q'.den.c] 30)).heap.size := by simp
  have HB := hide hb
  clear hb
  generalize ((w.alloc (.cells #[.bool q.num.g, .slice q.num.a q.num.n q.num.c, .bool q.den.g, .slice q.den.a q.den.n q.den.c] 30)).alloc (.cells #[.bool q'.num.g, .slice q'.num.a q'.num.n q'.num.c, .bool q'.den.g, .slice q'.den.a q'.den.n q'.den.c] 30)) = w0 at *
  go_region_held3 (fun w' => w'.cell? ⟨w.heap.size, 0, none⟩ = some (.bool q.num.g) ∧ w'.cell? ⟨w.heap.size, 1, none⟩ = some (.slice q.num.a q.num.n q.num.c) ∧ w'.cell? ⟨w.heap.size, 2, none⟩ = some (.bool q.den.g) ∧ w'.cell? ⟨w.heap.size, 3, none⟩ = some (.slice q.den.a q.den.n q.den.c) ∧ w'.cell? ⟨w.heap.size + 1, 0, none⟩ = some (.bool q'.num.g) ∧ w'.cell? ⟨w.heap.size + 1, 1, none⟩ = some (.slice q'.num.a q'.num.n q'.num.c) ∧ w'.cell? ⟨w.heap.size + 1, 2, none⟩ = some (.bool q'.den.g) ∧ w'.cell? ⟨w.heap.size + 1, 3, none⟩ = some (.slice q'.den.a q'.den.n q'.den.c)) (with_reducible (first | exact ⟨k0_0, k0_1, k0_2, k0_3, k1_0, k1_1, k1_2, k1_3⟩ | exact ⟨cd_other k0_0, cd_other k0_1, cd_other k0_2, cd_other k0_3, cd_other k1_0, cd_other k1_1, cd_other k1_2, cd_other k1_3⟩ | fail))
    (first
    | (go_at_call_of 144 (Value.agg #[Value.bool q.num.g, Value.slice q.num.a q.num.n q.num.c]); refine (mulS_v q.num q'.den N D' _ ?_ ?_ (unhide K1) (unhide K4)).mono ?_; exact (unhide Q1).1.later (Below.refl _ _).drew; exact (unhide Q2).2.later (Below.refl _ _).drew; rintro e w1 ⟨x1, lx1, rfl, hb, ox1, ax1, nx1⟩; have hbx : Below w0.heap.size w0 w1 := below_of_drew hb; have szw1 := hbx.size; replace k0_0 := cell_later hbx k0_0; replace k0_1 := cell_later hbx k0_1; replace k0_2 := cell_later hbx k0_2; replace k0_3 := cell_later hbx k0_3; replace k1_0 := cell_later hbx k1_0; replace k1_1 := cell_later hbx k1_1; replace k1_2 := cell_later hbx k1_2; replace k1_3 := cell_later hbx k1_3; replace Q1 := hide ((unhide Q1).later hbx); replace Q2 := hide ((unhide Q2).later hbx); have Px1 := hide (outN_ow ox1 ax1 nx1); have HBr := hide hbx; clear hbx hb ox1 ax1 nx1)
    | (go_at_call_of 144 (Value.agg #[Value.bool q'.num.g, Value.slice q'.num.a q'.num.n q'.num.c]); refine (mulS_v q'.num q.den N' D _ ?_ ?_ (unhide K3) (unhide K2)).mono ?_; exact (unhide Q2).1.later (Below.refl _ _); exact (unhide Q1).2.later (Below.refl _ _); rintro e w2 ⟨x2, lx2, rfl, hb, ox2, ax2, nx2⟩; have hbx : Below w1.heap.size w1 w2 := hb; have szw2 := hbx.size; replace k0_0 := cell_later hbx k0_0; replace k0_1 := cell_later hbx k0_1; replace k0_2 := cell_later hbx k0_2; replace k0_3 := cell_later hbx k0_3; replace k1_0 := cell_later hbx k1_0; replace k1_1 := cell_later hbx k1_1; replace k1_2 := cell_later hbx k1_2; replace k1_3 := cell_later hbx k1_3; replace Q1 := hide ((unhide Q1).later hbx); replace Q2 := hide ((unhide Q2).later hbx); replace Px1 := hide ((unhide Px1).later hbx); have Px2 := hide (outN_ow ox2 ax2 nx2); have HBr := hide (below_on (unhide HBr) hbx); clear hbx hb ox2 ax2 nx2)
    | (go_at_call 152; refine (cmpS_v x1 x2 (N * D') (N' * D) _ ?_ ?_).mono ?_; exact (unhide Px1).is.later (Below.refl _ _); exact (unhide Px2).is.later (Below.refl _ _); rintro e w3 ⟨rfl, hb⟩; have hbx : Below w2.heap.size w2 w3 := hb; have szw3 := hbx.size; replace k0_0 := cell_later hbx k0_0; replace k0_1 := cell_later hbx k0_1; replace k0_2 := cell_later hbx k0_2; replace k0_3 := cell_later hbx k0_3; replace k1_0 := cell_later hbx k1_0; replace k1_1 := cell_later hbx k1_1; replace k1_2 := cell_later hbx k1_2; replace k1_3 := cell_later hbx k1_3; replace Q1 := hide ((unhide Q1).later hbx); replace Q2 := hide ((unhide Q2).later hbx); replace Px1 := hide ((unhide Px1).later hbx); replace Px2 := hide ((unhide Px2).later hbx); have HBr := hide (below_on (unhide HBr) hbx); clear hbx hb))
  replace HB := hide (below_on (unhide HB) (unhide HBr))
  clear HBr
  go_wp2
  go_ret
  exact ⟨rfl, unhide HB⟩

def gS (d : SD) : Bool := (gQ d.lo && gQ d.hi) && decide (nQ d.lo * dQ d.hi ≤ nQ d.hi * dQ d.lo)
theorem cmpZ_le (A B : Int) : decide (cmpZ A B ≤ 0) = decide (A ≤ B) := by
  unfold cmpZ
  split
  · exact decide_eq_decide.2 (by omega)
  · split <;> exact decide_eq_decide.2 (by omega)
theorem AllAr.lo {w : World} {v : SV} {d : SD} (h : AllAr w [(v.lo.num, d.lo.num), (v.lo.den, d.lo.den), (v.hi.num, d.hi.num), (v.hi.den, d.hi.den)]) : AllAr w [(v.lo.num, d.lo.num), (v.lo.den, d.lo.den)] := h.Sl
theorem AllAr.hi {w : World} {v : SV} {d : SD} (h : AllAr w [(v.lo.num, d.lo.num), (v.lo.den, d.lo.den), (v.hi.num, d.hi.num), (v.hi.den, d.hi.den)]) : AllAr w [(v.hi.num, d.hi.num), (v.hi.den, d.hi.den)] := h.Sr

set_option maxHeartbeats 4000000 in
theorem goodSI (v : SV) (d : SD) (w : World) (h : AllAr w [(v.lo.num, d.lo.num), (v.lo.den, d.lo.den), (v.hi.num, d.hi.num), (v.hi.den, d.hi.den)]) :
    Calls Try.prog 111 #[.agg #[.bool v.lo.num.g, .slice v.lo.num.a v.lo.num.n v.lo.num.c, .bool v.lo.den.g, .slice v.lo.den.a v.lo.den.n v.lo.den.c, .bool v.hi.num.g, .slice v.hi.num.a v.hi.num.n v.hi.num.c, .bool v.hi.den.g, .slice v.hi.den.a v.hi.den.n v.hi.den.c]] w fun e w' => e = .returned (.bool (gS d)) ∧ Below w.heap.size w w' := by
  have H1 := hide h.lo
  have H2 := hide h.hi
  clear h
  cases hg1 : gQ d.lo
  · have G1 := hide (fun w1 (k : AllAr w1 [(v.lo.num, d.lo.num), (v.lo.den, d.lo.den)]) => goodQI v.lo d.lo w1 k)
    rw [hg1] at G1
    rw [show gS d = false from by unfold gS; rw [hg1]; rfl]
    clear hg1
    have B0 := hide (show Below w.heap.size w (w.alloc (.cells #[.bool v.lo.num.g, .slice v.lo.num.a v.lo.num.n v.lo.num.c, .bool v.lo.den.g, .slice v.lo.den.a v.lo.den.n v.lo.den.c, .bool v.hi.num.g, .slice v.hi.num.a v.hi.num.n v.hi.num.c, .bool v.hi.den.g, .slice v.hi.den.a v.hi.den.n v.hi.den.c] 41)) from ((Below.refl _ _).alloc (by simp) _))
    go_enter Try.func111, Try.ntmps111
    go_wp2_with fail
    refine (unhide G1 _ ((unhide H1).later (unhide B0))).mono ?_
    rintro e w1 ⟨rfl, hb⟩
    have HB := hide (below_on (unhide B0) hb)
    clear hb
    go_wp2
    go_ret
    exact ⟨rfl, unhide HB⟩
  · cases hg2 : gQ d.hi
    · have G1 := hide (fun w1 (k : AllAr w1 [(v.lo.num, d.lo.num), (v.lo.den, d.lo.den)]) => goodQI v.lo d.lo w1 k)
      have G2 := hide (fun w1 (k : AllAr w1 [(v.hi.num, d.hi.num), (v.hi.den, d.hi.den)]) => goodQI v.hi d.hi w1 k)
      rw [hg1] at G1
      rw [hg2] at G2
      rw [show gS d = false from by unfold gS; rw [hg1, hg2]; rfl]
      clear hg1 hg2
      have B0 := hide (show Below w.heap.size w (w.alloc (.cells #[.bool v.lo.num.g, .slice v.lo.num.a v.lo.num.n v.lo.num.c, .bool v.lo.den.g, .slice v.lo.den.a v.lo.den.n v.lo.den.c, .bool v.hi.num.g, .slice v.hi.num.a v.hi.num.n v.hi.num.c, .bool v.hi.den.g, .slice v.hi.den.a v.hi.den.n v.hi.den.c] 41)) from ((Below.refl _ _).alloc (by simp) _))
      go_enter Try.func111, Try.ntmps111
      go_wp2_with fail
      refine (unhide G1 _ ((unhide H1).later (unhide B0))).mono ?_
      rintro e w1 ⟨rfl, hb⟩
      have k0_4 : w1.cell? ⟨w.heap.size, 4, none⟩ = some (.bool v.hi.num.g) := cell_later hb (by simp [go_sem])
      have k0_5 : w1.cell? ⟨w.heap.size, 5, none⟩ = some (.slice v.hi.num.a v.hi.num.n v.hi.num.c) := cell_later hb (by simp [go_sem])
      have k0_6 : w1.cell? ⟨w.heap.size, 6, none⟩ = some (.bool v.hi.den.g) := cell_later hb (by simp [go_sem])
      have k0_7 : w1.cell? ⟨w.heap.size, 7, none⟩ = some (.slice v.hi.den.a v.hi.den.n v.hi.den.c) := cell_later hb (by simp [go_sem])
      have HB := hide (below_on (unhide B0) hb)
      clear hb
      go_wp2_with fail
      refine (unhide G2 _ ((unhide H2).later (unhide HB))).mono ?_
      rintro e w2 ⟨rfl, hb⟩
      clear k0_4 k0_5 k0_6 k0_7
      replace HB := hide (below_on (unhide HB) hb)
      clear hb
      go_wp2
      go_ret
      exact ⟨rfl, unhide HB⟩
    · have G1 := hide (fun w1 (k : AllAr w1 [(v.lo.num, d.lo.num), (v.lo.den, d.lo.den)]) => goodQI v.lo d.lo w1 k)
      have G2 := hide (fun w1 (k : AllAr w1 [(v.hi.num, d.hi.num), (v.hi.den, d.hi.den)]) => goodQI v.hi d.hi w1 k)
      rw [hg1] at G1
      rw [hg2] at G2
      have I1 := isGood_of (unhide H1) hg1
      have I2 := isGood_of (unhide H2) hg2
      have EE : Hid (decide (nQ d.lo * dQ d.hi ≤ nQ d.hi * dQ d.lo) = decide (cmpZ (nQ d.lo * dQ d.hi) (nQ d.hi * dQ d.lo) ≤ 0)) := hide (cmpZ_le _ _).symm
      have J1 := hide I1
      have J2 := hide I2
      clear I1 I2
      rw [show gS d = decide (nQ d.lo * dQ d.hi ≤ nQ d.hi * dQ d.lo) from by unfold gS; rw [hg1, hg2]; rfl]
      clear hg1 hg2
      have B0 := hide (show Below w.heap.size w (w.alloc (.cells #[.bool v.lo.num.g, .slice v.lo.num.a v.lo.num.n v.lo.num.c, .bool v.lo.den.g, .slice v.lo.den.a v.lo.den.n v.lo.den.c, .bool v.hi.num.g, .slice v.hi.num.a v.hi.num.n v.hi.num.c, .bool v.hi.den.g, .slice v.hi.den.a v.hi.den.n v.hi.den.c] 41)) from ((Below.refl _ _).alloc (by simp) _))
      go_enter Try.func111, Try.ntmps111
      go_wp2_with fail
      refine (unhide G1 _ ((unhide H1).later (unhide B0))).mono ?_
      rintro e w1 ⟨rfl, hb⟩
      have k0_0 : w1.cell? ⟨w.heap.size, 0, none⟩ = some (.bool v.lo.num.g) := cell_later hb (by simp [go_sem])
      have k0_1 : w1.cell? ⟨w.heap.size, 1, none⟩ = some (.slice v.lo.num.a v.lo.num.n v.lo.num.c) := cell_later hb (by simp [go_sem])
      have k0_2 : w1.cell? ⟨w.heap.size, 2, none⟩ = some (.bool v.lo.den.g) := cell_later hb (by simp [go_sem])
      have k0_3 : w1.cell? ⟨w.heap.size, 3, none⟩ = some (.slice v.lo.den.a v.lo.den.n v.lo.den.c) := cell_later hb (by simp [go_sem])
      have k0_4 : w1.cell? ⟨w.heap.size, 4, none⟩ = some (.bool v.hi.num.g) := cell_later hb (by simp [go_sem])
      have k0_5 : w1.cell? ⟨w.heap.size, 5, none⟩ = some (.slice v.hi.num.a v.hi.num.n v.hi.num.c) := cell_later hb (by simp [go_sem])
      have k0_6 : w1.cell? ⟨w.heap.size, 6, none⟩ = some (.bool v.hi.den.g) := cell_later hb (by simp [go_sem])
      have k0_7 : w1.cell? ⟨w.heap.size, 7, none⟩ = some (.slice v.hi.den.a v.hi.den.n v.hi.den.c) := cell_later hb (by simp [go_sem])
      have HB := hide (below_on (unhide B0) hb)
      clear hb
      go_wp2_with fail
      refine (unhide G2 _ ((unhide H2).later (unhide HB))).mono ?_
      rintro e w2 ⟨rfl, hb⟩
      replace k0_0 := cell_later hb k0_0
      replace k0_1 := cell_later hb k0_1
      replace k0_2 := cell_later hb k0_2
      replace k0_3 := cell_later hb k0_3
      replace k0_4 := cell_later hb k0_4
      replace k0_5 := cell_later hb k0_5
      replace k0_6 := cell_later hb k0_6
      replace k0_7 := cell_later hb k0_7
      replace HB := hide (below_on (unhide HB) hb)
      clear hb
      go_wp2_with fail
      refine (cmpQI v.lo v.hi _ _ _ _ _ ((unhide J1).is.later (unhide HB)) ((unhide J2).is.later (unhide HB)) ((unhide J1).kn.mono (by omega)) ((unhide J1).kd.mono (by omega)) ((unhide J2).kn.mono (by omega)) ((unhide J2).kd.mono (by omega))).mono ?_
      rintro e w3 ⟨rfl, hb⟩
      clear k0_0 k0_1 k0_2 k0_3 k0_4 k0_5 k0_6 k0_7
      replace HB := hide (below_on (unhide HB) hb)
      clear hb
      go_wp2
      go_ret
      exact ⟨by rw [unhide EE]; simp, unhide HB⟩

set_option maxHeartbeats 4000000 in
theorem goodSS (v : SV) (d : SD) (w : World) (h : AllAr w [(v.lo.num, d.lo.num), (v.lo.den, d.lo.den), (v.hi.num, d.hi.num), (v.hi.den, d.hi.den)]) :
    Calls Try.prog 105 #[.agg #[.bool v.lo.num.g, .slice v.lo.num.a v.lo.num.n v.lo.num.c, .bool v.lo.den.g, .slice v.lo.den.a v.lo.den.n v.lo.den.c, .bool v.hi.num.g, .slice v.hi.num.a v.hi.num.n v.hi.num.c, .bool v.hi.den.g, .slice v.hi.den.a v.hi.den.n v.hi.den.c]] w fun e w' => e = .returned (.bool (gS d)) ∧ Below w.heap.size w w' := by
  have H1 := hide h.lo
  have H2 := hide h.hi
  clear h
  cases hP : (gQ d.lo && gQ d.hi)
  · have GB := hide (fun w1 (k : AllAr w1 [(v.lo.num, d.lo.num), (v.lo.den, d.lo.den)]) (k' : AllAr w1 [(v.hi.num, d.hi.num), (v.hi.den, d.hi.den)]) => bothQS v.lo v.hi d.lo d.hi w1 k k')
    rw [hP] at GB
    rw [show gS d = false from by unfold gS; rw [hP]; rfl]
    clear hP
    have B0 := hide (show Below w.heap.size w (w.alloc (.cells #[.bool v.lo.num.g, .slice v.lo.num.a v.lo.num.n v.lo.num.c, .bool v.lo.den.g, .slice v.lo.den.a v.lo.den.n v.lo.den.c, .bool v.hi.num.g, .slice v.hi.num.a v.hi.num.n v.hi.num.c, .bool v.hi.den.g, .slice v.hi.den.a v.hi.den.n v.hi.den.c] 41)) from ((Below.refl _ _).alloc (by simp) _))
    go_enter Try.func105, Try.ntmps105
    go_wp2_with fail
    refine (unhide GB _ ((unhide H1).later (unhide B0)) ((unhide H2).later (unhide B0))).mono ?_
    rintro e w1 ⟨rfl, hb⟩
    have HB := hide (below_on (unhide B0) hb)
    clear hb
    go_wp2
    go_ret
    exact ⟨rfl, unhide HB⟩
  · have GB := hide (fun w1 (k : AllAr w1 [(v.lo.num, d.lo.num), (v.lo.den, d.lo.den)]) (k' : AllAr w1 [(v.hi.num, d.hi.num), (v.hi.den, d.hi.den)]) => bothQS v.lo v.hi d.lo d.hi w1 k k')
    rw [hP] at GB
    have hg1 : gQ d.lo = true := by revert hP; cases gQ d.lo <;> simp
    have hg2 : gQ d.hi = true := by revert hP; cases gQ d.hi <;> simp
    have I1 := isGood_of (unhide H1) hg1
    have I2 := isGood_of (unhide H2) hg2
    have EE : Hid (decide (nQ d.lo * dQ d.hi ≤ nQ d.hi * dQ d.lo) = decide (cmpZ (nQ d.lo * dQ d.hi) (nQ d.hi * dQ d.lo) ≤ 0)) := hide (cmpZ_le _ _).symm
    have J1 := hide I1
    have J2 := hide I2
    clear I1 I2
    rw [show gS d = decide (nQ d.lo * dQ d.hi ≤ nQ d.hi * dQ d.lo) from by unfold gS; rw [hP]; rfl]
    clear hg1 hg2 hP
    have B0 := hide (show Below w.heap.size w (w.alloc (.cells #[.bool v.lo.num.g, .slice v.lo.num.a v.lo.num.n v.lo.num.c, .bool v.lo.den.g, .slice v.lo.den.a v.lo.den.n v.lo.den.c, .bool v.hi.num.g, .slice v.hi.num.a v.hi.num.n v.hi.num.c, .bool v.hi.den.g, .slice v.hi.den.a v.hi.den.n v.hi.den.c] 41)) from ((Below.refl _ _).alloc (by simp) _))
    go_enter Try.func105, Try.ntmps105
    go_wp2_with fail
    refine (unhide GB _ ((unhide H1).later (unhide B0)) ((unhide H2).later (unhide B0))).mono ?_
    rintro e w1 ⟨rfl, hb⟩
    have k0_0 : w1.cell? ⟨w.heap.size, 0, none⟩ = some (.bool v.lo.num.g) := cell_later hb (by simp [go_sem])
    have k0_1 : w1.cell? ⟨w.heap.size, 1, none⟩ = some (.slice v.lo.num.a v.lo.num.n v.lo.num.c) := cell_later hb (by simp [go_sem])
    have k0_2 : w1.cell? ⟨w.heap.size, 2, none⟩ = some (.bool v.lo.den.g) := cell_later hb (by simp [go_sem])
    have k0_3 : w1.cell? ⟨w.heap.size, 3, none⟩ = some (.slice v.lo.den.a v.lo.den.n v.lo.den.c) := cell_later hb (by simp [go_sem])
    have k0_4 : w1.cell? ⟨w.heap.size, 4, none⟩ = some (.bool v.hi.num.g) := cell_later hb (by simp [go_sem])
    have k0_5 : w1.cell? ⟨w.heap.size, 5, none⟩ = some (.slice v.hi.num.a v.hi.num.n v.hi.num.c) := cell_later hb (by simp [go_sem])
    have k0_6 : w1.cell? ⟨w.heap.size, 6, none⟩ = some (.bool v.hi.den.g) := cell_later hb (by simp [go_sem])
    have k0_7 : w1.cell? ⟨w.heap.size, 7, none⟩ = some (.slice v.hi.den.a v.hi.den.n v.hi.den.c) := cell_later hb (by simp [go_sem])
    have HB := hide (below_on (unhide B0) hb)
    clear hb
    go_wp2_with fail
    refine (cmpQS v.lo v.hi _ _ _ _ _ ((unhide J1).is.later (unhide HB)) ((unhide J2).is.later (unhide HB)) ((unhide J1).kn.mono (by omega)) ((unhide J1).kd.mono (by omega)) ((unhide J2).kn.mono (by omega)) ((unhide J2).kd.mono (by omega))).mono ?_
    rintro e w3 ⟨rfl, hb⟩
    clear k0_0 k0_1 k0_2 k0_3 k0_4 k0_5 k0_6 k0_7
    replace HB := hide (below_on (unhide HB) hb)
    clear hb
    go_wp2
    go_ret
    exact ⟨by rw [unhide EE]; simp, unhide HB⟩

structure IsGoodS (w : World) (v : SV) (d : SD) : Prop where
  lo : IsGood w v.lo d.lo
  hi : IsGood w v.hi d.hi
  le : nQ d.lo * dQ d.hi ≤ nQ d.hi * dQ d.lo
theorem isGoodS_of {w : World} {v : SV} {d : SD} (h : AllAr w [(v.lo.num, d.lo.num), (v.lo.den, d.lo.den), (v.hi.num, d.hi.num), (v.hi.den, d.hi.den)]) (hg : gS d = true) : IsGoodS w v d := by
  unfold gS at hg
  simp only [Bool.and_eq_true, decide_eq_true_eq] at hg
  exact ⟨isGood_of h.lo hg.1.1, isGood_of h.hi hg.1.2, hg.2⟩
theorem IsGoodS.later {w w' : World} {v : SV} {d : SD} (h : IsGoodS w v d) (hb : Below w.heap.size w w') : IsGoodS w' v d := ⟨h.lo.later hb, h.hi.later hb, h.le⟩

set_option maxHeartbeats 4000000 in
theorem WidthOfI (v : SV) (d : SD) (w : World) (h : AllAr w [(v.lo.num, d.lo.num), (v.lo.den, d.lo.den), (v.hi.num, d.hi.num), (v.hi.den, d.hi.den)]) :
    Calls Try.prog 50 #[.agg #[.bool v.lo.num.g, .slice v.lo.num.a v.lo.num.n v.lo.num.c, .bool v.lo.den.g, .slice v.lo.den.a v.lo.den.n v.lo.den.c, .bool v.hi.num.g, .slice v.hi.num.a v.hi.num.n v.hi.num.c, .bool v.hi.den.g, .slice v.hi.den.a v.hi.den.n v.hi.den.c]] w (RetQ w (AnsQ (gS d) (lowN (nQ d.hi * dQ d.lo - nQ d.lo * dQ d.hi) (dQ d.hi * dQ d.lo)) (lowD (nQ d.hi * dQ d.lo - nQ d.lo * dQ d.hi) (dQ d.hi * dQ d.lo)))) := by
  have H1 := hide h
  clear h
  cases hg1 : gS d
  · have G1 := hide (fun w1 (k : AllAr w1 [(v.lo.num, d.lo.num), (v.lo.den, d.lo.den), (v.hi.num, d.hi.num), (v.hi.den, d.hi.den)]) => goodSI v d w1 k)
    rw [hg1] at G1
    clear hg1
    have B0 := hide (show Below w.heap.size w ((w.alloc (.cells #[.bool v.lo.num.g, .slice v.lo.num.a v.lo.num.n v.lo.num.c, .bool v.lo.den.g, .slice v.lo.den.a v.lo.den.n v.lo.den.c, .bool v.hi.num.g, .slice v.hi.num.a v.hi.num.n v.hi.num.c, .bool v.hi.den.g, .slice v.hi.den.a v.hi.den.n v.hi.den.c] 41)).alloc (.cells #[.bool false, .slice none 0 0, .bool false, .slice none 0 0] 30)) from (((Below.refl _ _).alloc (by simp) _).alloc (by simp) _))
    go_enter Try.func50, Try.ntmps50
    go_wp2_with fail
    refine (unhide G1 _ ((unhide H1).later (unhide B0))).mono ?_
    rintro e w1 ⟨rfl, hb⟩
    have s1 : w.heap.size + 1 < w1.heap.size := by have := hb.size; simp at this; omega
    have k1_0 : w1.cell? ⟨w.heap.size + 1, 0, none⟩ = some (.bool false) := cell_later hb (by simp [go_sem])
    have k1_1 : w1.cell? ⟨w.heap.size + 1, 1, none⟩ = some (.slice none 0 0) := cell_later hb (by simp [go_sem])
    have k1_2 : w1.cell? ⟨w.heap.size + 1, 2, none⟩ = some (.bool false) := cell_later hb (by simp [go_sem])
    have k1_3 : w1.cell? ⟨w.heap.size + 1, 3, none⟩ = some (.slice none 0 0) := cell_later hb (by simp [go_sem])
    have z1 : ∀ o, w1.frozen? ⟨w.heap.size + 1, o, none⟩ = false := fun o => frozen_later hb (by simp) (by simp [go_sem])
    have HB := hide (below_on (unhide B0) hb)
    clear hb
    go_wp2
    refine bodyPost_ret (v := .tuple #[.agg #[.bool false, .slice none 0 0, .bool false, .slice none 0 0], .bool false]) (by simp [results, Try.results50, go_sem, k1_0, k1_1, k1_2, k1_3]) rfl ?_
    exact retQ_fin (v := (⟨⟨false, none, 0, 0⟩, ⟨false, none, 0, 0⟩⟩ : QV)) (d := (⟨⟨false, []⟩, ⟨false, []⟩⟩ : QD)) (R := w.heap.size + 1) (by omega) (unhide HB) (metQ_but (w5 := w1) (v := (⟨⟨false, none, 0, 0⟩, ⟨false, none, 0, 0⟩⟩ : QV)) (G := w.heap.size + 1)) (zeroQ _ _ _) (ansQ_none _ _)
  · have G1 := hide (fun w1 (k : AllAr w1 [(v.lo.num, d.lo.num), (v.lo.den, d.lo.den), (v.hi.num, d.hi.num), (v.hi.den, d.hi.den)]) => goodSI v d w1 k)
    rw [hg1] at G1
    have I1 := isGoodS_of (unhide H1) hg1
    have NZ : Hid (dQ d.hi * dQ d.lo ≠ 0) := hide (Int.mul_ne_zero (by have := I1.hi.pos; omega) (by have := I1.lo.pos; omega))
    have J := hide I1
    clear hg1 I1
    have B0 := hide (show Below w.heap.size w ((w.alloc (.cells #[.bool v.lo.num.g, .slice v.lo.num.a v.lo.num.n v.lo.num.c, .bool v.lo.den.g, .slice v.lo.den.a v.lo.den.n v.lo.den.c, .bool v.hi.num.g, .slice v.hi.num.a v.hi.num.n v.hi.num.c, .bool v.hi.den.g, .slice v.hi.den.a v.hi.den.n v.hi.den.c] 41)).alloc (.cells #[.bool false, .slice none 0 0, .bool false, .slice none 0 0] 30)) from (((Below.refl _ _).alloc (by simp) _).alloc (by simp) _))
    go_enter Try.func50, Try.ntmps50
    go_wp2_with fail
    refine (unhide G1 _ ((unhide H1).later (unhide B0))).mono ?_
    rintro e w1 ⟨rfl, hb⟩
    have s1 : w.heap.size + 1 < w1.heap.size := by have := hb.size; simp at this; omega
    have k0_0 : w1.cell? ⟨w.heap.size, 0, none⟩ = some (.bool v.lo.num.g) := cell_later hb (by simp [go_sem])
    have k0_1 : w1.cell? ⟨w.heap.size, 1, none⟩ = some (.slice v.lo.num.a v.lo.num.n v.lo.num.c) := cell_later hb (by simp [go_sem])
    have k0_2 : w1.cell? ⟨w.heap.size, 2, none⟩ = some (.bool v.lo.den.g) := cell_later hb (by simp [go_sem])
    have k0_3 : w1.cell? ⟨w.heap.size, 3, none⟩ = some (.slice v.lo.den.a v.lo.den.n v.lo.den.c) := cell_later hb (by simp [go_sem])
    have k0_4 : w1.cell? ⟨w.heap.size, 4, none⟩ = some (.bool v.hi.num.g) := cell_later hb (by simp [go_sem])
    have k0_5 : w1.cell? ⟨w.heap.size, 5, none⟩ = some (.slice v.hi.num.a v.hi.num.n v.hi.num.c) := cell_later hb (by simp [go_sem])
    have k0_6 : w1.cell? ⟨w.heap.size, 6, none⟩ = some (.bool v.hi.den.g) := cell_later hb (by simp [go_sem])
    have k0_7 : w1.cell? ⟨w.heap.size, 7, none⟩ = some (.slice v.hi.den.a v.hi.den.n v.hi.den.c) := cell_later hb (by simp [go_sem])
    have k1_0 : w1.cell? ⟨w.heap.size + 1, 0, none⟩ = some (.bool false) := cell_later hb (by simp [go_sem])
    have k1_1 : w1.cell? ⟨w.heap.size + 1, 1, none⟩ = some (.slice none 0 0) := cell_later hb (by simp [go_sem])
    have k1_2 : w1.cell? ⟨w.heap.size + 1, 2, none⟩ = some (.bool false) := cell_later hb (by simp [go_sem])
    have k1_3 : w1.cell? ⟨w.heap.size + 1, 3, none⟩ = some (.slice none 0 0) := cell_later hb (by simp [go_sem])
    have z1 : ∀ o, w1.frozen? ⟨w.heap.size + 1, o, none⟩ = false := fun o => frozen_later hb (by simp) (by simp [go_sem])
    have HB := hide (below_on (unhide B0) hb)
    clear hb
    go_wp2_with fail
    refine (subQI v.hi v.lo _ _ _ _ _ ((unhide J).hi.is.later (unhide HB)) ((unhide J).lo.is.later (unhide HB)) (unhide NZ) ((unhide J).hi.kn.mono (by omega)) ((unhide J).hi.kd.mono (by omega)) ((unhide J).lo.kn.mono (by omega)) ((unhide J).lo.kd.mono (by omega))).mono ?_
    rintro e w3 ⟨r, zs, us, rfl, hb, or, ar, nz, nu⟩
    have s3 := hb.size
    have RM : r.den.n ≤ maxLen := Nat.le_trans ar.tail.head.ar.cap ar.tail.head.ar.top
    have NN := hide (And.intro nz nu)
    replace z1 := fun o => frozen_later hb (World.block_lt_of_cell? _ _ k1_0) (z1 o)
    replace k1_0 := cell_later hb k1_0
    replace k1_1 := cell_later hb k1_1
    replace k1_2 := cell_later hb k1_2
    replace k1_3 := cell_later hb k1_3
    clear k0_0 k0_1 k0_2 k0_3 k0_4 k0_5 k0_6 k0_7
    have OR := hide (or)
    replace HB := hide (below_on (unhide HB) hb)
    clear hb
    clear or ar nz nu
    go_wp2_with fail
    refine (whereQ r _ _ zs us w1.heap.size w3.heap.size _ (unhide OR) (Nat.le_refl _) RM (unhide NN).1 (unhide NN).2 (by have := lowD_pos (N := nQ d.hi * dQ d.lo - nQ d.lo * dQ d.hi) (unhide NZ); omega)).mono ?_
    rintro e w4 ⟨u, dv, ok, rfl, hb, ov, hu⟩
    have s4 := hb.size
    have UU := hide hu
    replace z1 := fun o => frozen_later hb (World.block_lt_of_cell? _ _ k1_0) (z1 o)
    replace k1_0 := cell_later hb k1_0
    replace k1_1 := cell_later hb k1_1
    replace k1_2 := cell_later hb k1_2
    replace k1_3 := cell_later hb k1_3
    replace OR := hide ((unhide OR).later hb)
    have OV := hide (ov)
    replace HB := hide (below_on (unhide HB) hb)
    clear hb
    clear ov hu
    go_wp2
    refine bodyPost_ret (v := .tuple #[.agg #[.bool u.num.g, .slice u.num.a u.num.n u.num.c, .bool u.den.g, .slice u.den.a u.den.n u.den.c], .bool ok]) (by simp [results, Try.results50, go_sem, k1_0, k1_1, k1_2, k1_3]) rfl ?_
    exact retQ_fin (v := u) (d := dv) (R := w.heap.size + 1) (by omega) (unhide HB) (metQ_but (w5 := w4) (v := u) (G := w.heap.size + 1)) ((unhide OV).wide (by omega) (by omega)) (unhide UU)

set_option maxHeartbeats 4000000 in
theorem WidthOfS (v : SV) (d : SD) (w : World) (h : AllAr w [(v.lo.num, d.lo.num), (v.lo.den, d.lo.den), (v.hi.num, d.hi.num), (v.hi.den, d.hi.den)]) :
    Calls Try.prog 49 #[.agg #[.bool v.lo.num.g, .slice v.lo.num.a v.lo.num.n v.lo.num.c, .bool v.lo.den.g, .slice v.lo.den.a v.lo.den.n v.lo.den.c, .bool v.hi.num.g, .slice v.hi.num.a v.hi.num.n v.hi.num.c, .bool v.hi.den.g, .slice v.hi.den.a v.hi.den.n v.hi.den.c]] w (RetQ w (AnsQ (gS d) (lowN (nQ d.hi * dQ d.lo - nQ d.lo * dQ d.hi) (dQ d.hi * dQ d.lo)) (lowD (nQ d.hi * dQ d.lo - nQ d.lo * dQ d.hi) (dQ d.hi * dQ d.lo)))) := by
  have H1 := hide h
  clear h
  cases hg1 : gS d
  · have G1 := hide (fun w1 (k : AllAr w1 [(v.lo.num, d.lo.num), (v.lo.den, d.lo.den), (v.hi.num, d.hi.num), (v.hi.den, d.hi.den)]) => goodSS v d w1 k)
    rw [hg1] at G1
    clear hg1
    have B0 := hide (show Below w.heap.size w ((w.alloc (.cells #[.bool v.lo.num.g, .slice v.lo.num.a v.lo.num.n v.lo.num.c, .bool v.lo.den.g, .slice v.lo.den.a v.lo.den.n v.lo.den.c, .bool v.hi.num.g, .slice v.hi.num.a v.hi.num.n v.hi.num.c, .bool v.hi.den.g, .slice v.hi.den.a v.hi.den.n v.hi.den.c] 41)).alloc (.cells #[.bool false, .slice none 0 0, .bool false, .slice none 0 0] 30)) from (((Below.refl _ _).alloc (by simp) _).alloc (by simp) _))
    go_enter Try.func49, Try.ntmps49
    go_wp2_with fail
    refine (unhide G1 _ ((unhide H1).later (unhide B0))).mono ?_
    rintro e w1 ⟨rfl, hb⟩
    have s1 : w.heap.size + 1 < w1.heap.size := by have := hb.size; simp at this; omega
    have k1_0 : w1.cell? ⟨w.heap.size + 1, 0, none⟩ = some (.bool false) := cell_later hb (by simp [go_sem])
    have k1_1 : w1.cell? ⟨w.heap.size + 1, 1, none⟩ = some (.slice none 0 0) := cell_later hb (by simp [go_sem])
    have k1_2 : w1.cell? ⟨w.heap.size + 1, 2, none⟩ = some (.bool false) := cell_later hb (by simp [go_sem])
    have k1_3 : w1.cell? ⟨w.heap.size + 1, 3, none⟩ = some (.slice none 0 0) := cell_later hb (by simp [go_sem])
    have z1 : ∀ o, w1.frozen? ⟨w.heap.size + 1, o, none⟩ = false := fun o => frozen_later hb (by simp) (by simp [go_sem])
    have HB := hide (below_on (unhide B0) hb)
    clear hb
    go_wp2
    refine bodyPost_ret (v := .tuple #[.agg #[.bool false, .slice none 0 0, .bool false, .slice none 0 0], .bool false]) (by simp [results, Try.results49, go_sem, k1_0, k1_1, k1_2, k1_3]) rfl ?_
    exact retQ_fin (v := (⟨⟨false, none, 0, 0⟩, ⟨false, none, 0, 0⟩⟩ : QV)) (d := (⟨⟨false, []⟩, ⟨false, []⟩⟩ : QD)) (R := w.heap.size + 1) (by omega) (unhide HB) (metQ_but (w5 := w1) (v := (⟨⟨false, none, 0, 0⟩, ⟨false, none, 0, 0⟩⟩ : QV)) (G := w.heap.size + 1)) (zeroQ _ _ _) (ansQ_none _ _)
  · have G1 := hide (fun w1 (k : AllAr w1 [(v.lo.num, d.lo.num), (v.lo.den, d.lo.den), (v.hi.num, d.hi.num), (v.hi.den, d.hi.den)]) => goodSS v d w1 k)
    rw [hg1] at G1
    have I1 := isGoodS_of (unhide H1) hg1
    have NZ : Hid (dQ d.hi * dQ d.lo ≠ 0) := hide (Int.mul_ne_zero (by have := I1.hi.pos; omega) (by have := I1.lo.pos; omega))
    have J := hide I1
    clear hg1 I1
    have B0 := hide (show Below w.heap.size w ((w.alloc (.cells #[.bool v.lo.num.g, .slice v.lo.num.a v.lo.num.n v.lo.num.c, .bool v.lo.den.g, .slice v.lo.den.a v.lo.den.n v.lo.den.c, .bool v.hi.num.g, .slice v.hi.num.a v.hi.num.n v.hi.num.c, .bool v.hi.den.g, .slice v.hi.den.a v.hi.den.n v.hi.den.c] 41)).alloc (.cells #[.bool false, .slice none 0 0, .bool false, .slice none 0 0] 30)) from (((Below.refl _ _).alloc (by simp) _).alloc (by simp) _))
    go_enter Try.func49, Try.ntmps49
    go_wp2_with fail
    refine (unhide G1 _ ((unhide H1).later (unhide B0))).mono ?_
    rintro e w1 ⟨rfl, hb⟩
    have s1 : w.heap.size + 1 < w1.heap.size := by have := hb.size; simp at this; omega
    have k0_0 : w1.cell? ⟨w.heap.size, 0, none⟩ = some (.bool v.lo.num.g) := cell_later hb (by simp [go_sem])
    have k0_1 : w1.cell? ⟨w.heap.size, 1, none⟩ = some (.slice v.lo.num.a v.lo.num.n v.lo.num.c) := cell_later hb (by simp [go_sem])
    have k0_2 : w1.cell? ⟨w.heap.size, 2, none⟩ = some (.bool v.lo.den.g) := cell_later hb (by simp [go_sem])
    have k0_3 : w1.cell? ⟨w.heap.size, 3, none⟩ = some (.slice v.lo.den.a v.lo.den.n v.lo.den.c) := cell_later hb (by simp [go_sem])
    have k0_4 : w1.cell? ⟨w.heap.size, 4, none⟩ = some (.bool v.hi.num.g) := cell_later hb (by simp [go_sem])
    have k0_5 : w1.cell? ⟨w.heap.size, 5, none⟩ = some (.slice v.hi.num.a v.hi.num.n v.hi.num.c) := cell_later hb (by simp [go_sem])
    have k0_6 : w1.cell? ⟨w.heap.size, 6, none⟩ = some (.bool v.hi.den.g) := cell_later hb (by simp [go_sem])
    have k0_7 : w1.cell? ⟨w.heap.size, 7, none⟩ = some (.slice v.hi.den.a v.hi.den.n v.hi.den.c) := cell_later hb (by simp [go_sem])
    have k1_0 : w1.cell? ⟨w.heap.size + 1, 0, none⟩ = some (.bool false) := cell_later hb (by simp [go_sem])
    have k1_1 : w1.cell? ⟨w.heap.size + 1, 1, none⟩ = some (.slice none 0 0) := cell_later hb (by simp [go_sem])
    have k1_2 : w1.cell? ⟨w.heap.size + 1, 2, none⟩ = some (.bool false) := cell_later hb (by simp [go_sem])
    have k1_3 : w1.cell? ⟨w.heap.size + 1, 3, none⟩ = some (.slice none 0 0) := cell_later hb (by simp [go_sem])
    have z1 : ∀ o, w1.frozen? ⟨w.heap.size + 1, o, none⟩ = false := fun o => frozen_later hb (by simp) (by simp [go_sem])
    have HB := hide (below_on (unhide B0) hb)
    clear hb
    go_wp2_with fail
    refine (subQS v.hi v.lo _ _ _ _ _ ((unhide J).hi.is.later (unhide HB)) ((unhide J).lo.is.later (unhide HB)) (unhide NZ) ((unhide J).hi.kn.mono (by omega)) ((unhide J).hi.kd.mono (by omega)) ((unhide J).lo.kn.mono (by omega)) ((unhide J).lo.kd.mono (by omega))).mono ?_
    rintro e w3 ⟨r, rfl, hb, or1, or2⟩
    have s3 := hb.size
    replace z1 := fun o => frozen_later hb (World.block_lt_of_cell? _ _ k1_0) (z1 o)
    replace k1_0 := cell_later hb k1_0
    replace k1_1 := cell_later hb k1_1
    replace k1_2 := cell_later hb k1_2
    replace k1_3 := cell_later hb k1_3
    clear k0_0 k0_1 k0_2 k0_3 k0_4 k0_5 k0_6 k0_7
    have OR1 := hide (or1)
    have OR2 := hide (or2)
    replace HB := hide (below_on (unhide HB) hb)
    clear hb
    clear or1 or2
    go_wp2_with fail
    refine (fitsQS r _ _ _ ⟨(unhide OR1).is, (unhide OR2).is⟩ (lowD_pos (unhide NZ))).mono ?_
    rintro e w4 ⟨u, dv, ok, rfl, hb, ov, hu⟩
    have s4 := hb.size
    have UU := hide hu
    replace z1 := fun o => frozen_later hb (World.block_lt_of_cell? _ _ k1_0) (z1 o)
    replace k1_0 := cell_later hb k1_0
    replace k1_1 := cell_later hb k1_1
    replace k1_2 := cell_later hb k1_2
    replace k1_3 := cell_later hb k1_3
    replace OR1 := hide ((unhide OR1).later hb)
    replace OR2 := hide ((unhide OR2).later hb)
    have OV := hide (ov)
    replace HB := hide (below_on (unhide HB) hb)
    clear hb
    clear ov hu
    go_wp2
    refine bodyPost_ret (v := .tuple #[.agg #[.bool u.num.g, .slice u.num.a u.num.n u.num.c, .bool u.den.g, .slice u.den.a u.den.n u.den.c], .bool ok]) (by simp [results, Try.results49, go_sem, k1_0, k1_1, k1_2, k1_3]) rfl ?_
    exact retQ_fin (v := u) (d := dv) (R := w.heap.size + 1) (by omega) (unhide HB) (metQ_but (w5 := w4) (v := u) (G := w.heap.size + 1)) ((unhide OV).wide (by omega) (by omega)) (unhide UU)
end Go.Proofs.Ytlmeokeanihhoaa
namespace Go.Proofs.Ytlmeokeanihhoaa
open Go.RowKit
set_option linter.unusedVariables false
set_option maxRecDepth 100000
set_option linter.unusedSimpArgs false

/-- A variable of the law's own: its box at block G, what it leads to at blocks from lo to below hi. -/
structure VarS (wx : World) (G lo hi : Nat) (v : SV) (d : SD) : Prop where
  c0 : wx.cell? ⟨G, 0, none⟩ = some (.bool v.lo.num.g)
  c1 : wx.cell? ⟨G, 1, none⟩ = some (.slice v.lo.num.a v.lo.num.n v.lo.num.c)
  c2 : wx.cell? ⟨G, 2, none⟩ = some (.bool v.lo.den.g)
  c3 : wx.cell? ⟨G, 3, none⟩ = some (.slice v.lo.den.a v.lo.den.n v.lo.den.c)
  c4 : wx.cell? ⟨G, 4, none⟩ = some (.bool v.hi.num.g)
  c5 : wx.cell? ⟨G, 5, none⟩ = some (.slice v.hi.num.a v.hi.num.n v.hi.num.c)
  c6 : wx.cell? ⟨G, 6, none⟩ = some (.bool v.hi.den.g)
  c7 : wx.cell? ⟨G, 7, none⟩ = some (.slice v.hi.den.a v.hi.den.n v.hi.den.c)
  own : AllOwn lo hi wx [(v.lo.num, d.lo.num), (v.lo.den, d.lo.den), (v.hi.num, d.hi.num), (v.hi.den, d.hi.den)]
theorem VarS.later {wx wy : World} {G lo hi : Nat} {v : SV} {d : SD} (h : VarS wx G lo hi v d) (hb : Below wx.heap.size wx wy) : VarS wy G lo hi v d :=
  ⟨cell_later hb h.c0, cell_later hb h.c1, cell_later hb h.c2, cell_later hb h.c3, cell_later hb h.c4, cell_later hb h.c5, cell_later hb h.c6, cell_later hb h.c7, h.own.later hb⟩
theorem VarS.but {wx wy : World} {G lo hi lo' hi' : Nat} {v : SV} {d : SD} (h : VarS wx G lo hi v d) (hb : But lo' hi' wx wy) (hG : G < lo' ∨ hi' ≤ G) (hd : hi ≤ lo' ∨ hi' ≤ lo) : VarS wy G lo hi v d :=
  ⟨hb.cell h.c0 hG, hb.cell h.c1 hG, hb.cell h.c2 hG, hb.cell h.c3 hG, hb.cell h.c4 hG, hb.cell h.c5 hG, hb.cell h.c6 hG, hb.cell h.c7 hG, h.own.but hb hd⟩
theorem VarS.mark {wx wy : World} {G lo hi : Nat} {v : SV} {d d' : SD} (h : VarS wx G lo hi v d) (hb : But lo hi wx wy) (hG : G < lo ∨ hi ≤ G) (ho : AllOwn lo hi wy [(v.lo.num, d'.lo.num), (v.lo.den, d'.lo.den), (v.hi.num, d'.hi.num), (v.hi.den, d'.hi.den)]) : VarS wy G lo hi v d' :=
  ⟨hb.cell h.c0 hG, hb.cell h.c1 hG, hb.cell h.c2 hG, hb.cell h.c3 hG, hb.cell h.c4 hG, hb.cell h.c5 hG, hb.cell h.c6 hG, hb.cell h.c7 hG, ho⟩
theorem VarS.low {wx : World} {G lo hi lo' : Nat} {v : SV} {d : SD} (h : VarS wx G lo hi v d) (hl : lo' ≤ lo) : VarS wx G lo' hi v d := ⟨h.c0, h.c1, h.c2, h.c3, h.c4, h.c5, h.c6, h.c7, h.own.wide hl (Nat.le_refl _)⟩
theorem VarS.start {wx : World} {lo : Nat} {v : SV} {d : SD} (t : TypeId) (h : AllOwn lo wx.heap.size wx [(v.lo.num, d.lo.num), (v.lo.den, d.lo.den), (v.hi.num, d.hi.num), (v.hi.den, d.hi.den)]) : VarS (wx.alloc (.cells #[.bool v.lo.num.g, .slice v.lo.num.a v.lo.num.n v.lo.num.c, .bool v.lo.den.g, .slice v.lo.den.a v.lo.den.n v.lo.den.c, .bool v.hi.num.g, .slice v.hi.num.a v.hi.num.n v.hi.num.c, .bool v.hi.den.g, .slice v.hi.den.a v.hi.den.n v.hi.den.c] t)) wx.heap.size lo wx.heap.size v d :=
  ⟨by simp [go_sem], by simp [go_sem], by simp [go_sem], by simp [go_sem], by simp [go_sem], by simp [go_sem], by simp [go_sem], by simp [go_sem], h.later ((Below.refl _ _).alloc (Nat.le_refl _) _)⟩
theorem VarS.gt {wx : World} {G lo hi : Nat} {v : SV} {d : SD} (h : VarS wx G lo hi v d) : G < wx.heap.size := World.block_lt_of_cell? _ _ h.c0
end Go.Proofs.Ytlmeokeanihhoaa
namespace Go.Proofs.Ytlmeokeanihhoaa
open Go.RowKit
set_option linter.unusedVariables false
set_option maxRecDepth 100000
set_option linter.unusedSimpArgs false

structure TlawWidth (w wx : World) (v0 : SV) (d0 : SD) : Prop where
  bel : Below w.heap.size w wx
  x0_0 : wx.cell? ⟨w.heap.size, 0, none⟩ = some (.bool v0.lo.num.g)
  x0_1 : wx.cell? ⟨w.heap.size, 1, none⟩ = some (.slice v0.lo.num.a v0.lo.num.n v0.lo.num.c)
  x0_2 : wx.cell? ⟨w.heap.size, 2, none⟩ = some (.bool v0.lo.den.g)
  x0_3 : wx.cell? ⟨w.heap.size, 3, none⟩ = some (.slice v0.lo.den.a v0.lo.den.n v0.lo.den.c)
  x0_4 : wx.cell? ⟨w.heap.size, 4, none⟩ = some (.bool v0.hi.num.g)
  x0_5 : wx.cell? ⟨w.heap.size, 5, none⟩ = some (.slice v0.hi.num.a v0.hi.num.n v0.hi.num.c)
  x0_6 : wx.cell? ⟨w.heap.size, 6, none⟩ = some (.bool v0.hi.den.g)
  x0_7 : wx.cell? ⟨w.heap.size, 7, none⟩ = some (.slice v0.hi.den.a v0.hi.den.n v0.hi.den.c)
  s0 : AllSl wx [(v0.lo.num, d0.lo.num), (v0.lo.den, d0.lo.den), (v0.hi.num, d0.hi.num), (v0.hi.den, d0.hi.den)]
theorem TlawWidth.later {w wx wy : World} {v0 : SV} {d0 : SD} (h : TlawWidth w wx v0 d0) (hb : Below wx.heap.size wx wy) : TlawWidth w wy v0 d0 :=
  ⟨below_on h.bel hb, cell_later hb h.x0_0, cell_later hb h.x0_1, cell_later hb h.x0_2, cell_later hb h.x0_3, cell_later hb h.x0_4, cell_later hb h.x0_5, cell_later hb h.x0_6, cell_later hb h.x0_7, h.s0.later hb⟩
theorem TlawWidth.but {w wx wy : World} {v0 : SV} {d0 : SD} {lo hi : Nat} (h : TlawWidth w wx v0 d0) (hb : But lo hi wx wy) (hl : w.heap.size + 1 ≤ lo) (hx0 : AllSl w [(v0.lo.num, d0.lo.num), (v0.lo.den, d0.lo.den), (v0.hi.num, d0.hi.num), (v0.hi.den, d0.hi.den)]) : TlawWidth w wy v0 d0 := by
  have hB := hb.below h.bel (by omega) h.bel.size
  exact ⟨hB, hb.cell h.x0_0 (by omega), hb.cell h.x0_1 (by omega), hb.cell h.x0_2 (by omega), hb.cell h.x0_3 (by omega), hb.cell h.x0_4 (by omega), hb.cell h.x0_5 (by omega), hb.cell h.x0_6 (by omega), hb.cell h.x0_7 (by omega), hx0.later hB⟩
theorem TlawWidth.start (w : World) (v0 : SV) (d0 : SD) (t0 : TypeId) (hx0 : AllSl w [(v0.lo.num, d0.lo.num), (v0.lo.den, d0.lo.den), (v0.hi.num, d0.hi.num), (v0.hi.den, d0.hi.den)]) : TlawWidth w (w.alloc (.cells #[.bool v0.lo.num.g, .slice v0.lo.num.a v0.lo.num.n v0.lo.num.c, .bool v0.lo.den.g, .slice v0.lo.den.a v0.lo.den.n v0.lo.den.c, .bool v0.hi.num.g, .slice v0.hi.num.a v0.hi.num.n v0.hi.num.c, .bool v0.hi.den.g, .slice v0.hi.den.a v0.hi.den.n v0.hi.den.c] t0)) v0 d0 := by
  have hb : Below w.heap.size w (w.alloc (.cells #[.bool v0.lo.num.g, .slice v0.lo.num.a v0.lo.num.n v0.lo.num.c, .bool v0.lo.den.g, .slice v0.lo.den.a v0.lo.den.n v0.lo.den.c, .bool v0.hi.num.g, .slice v0.hi.num.a v0.hi.num.n v0.hi.num.c, .bool v0.hi.den.g, .slice v0.hi.den.a v0.hi.den.n v0.hi.den.c] t0)) := (Below.refl _ _).alloc (Nat.le_refl _) _
  exact ⟨hb, by simp [go_sem], by simp [go_sem], by simp [go_sem], by simp [go_sem], by simp [go_sem], by simp [go_sem], by simp [go_sem], by simp [go_sem], hx0.later hb⟩

set_option maxHeartbeats 1000000 in
theorem lawWidth_out0 (v0 : SV) (w : World) (m0 : v0.lo.num.n ≤ maxLen) (m1 : v0.lo.den.n ≤ maxLen) (m2 : v0.hi.num.n ≤ maxLen) (m3 : v0.hi.den.n ≤ maxLen) (h0 : 0 ≤ 1048576) (h : 1048576 < v0.lo.num.n + v0.lo.den.n + v0.hi.num.n + v0.hi.den.n) :
    Calls Try.prog 13 #[.agg #[.bool v0.lo.num.g, .slice v0.lo.num.a v0.lo.num.n v0.lo.num.c, .bool v0.lo.den.g, .slice v0.lo.den.a v0.lo.den.n v0.lo.den.c, .bool v0.hi.num.g, .slice v0.hi.num.a v0.hi.num.n v0.hi.num.c, .bool v0.hi.den.g, .slice v0.hi.den.a v0.hi.den.n v0.hi.den.c]] w fun e w' => e = .returned (.bool true) ∧ Below w.heap.size w w' := by
  go_enter Try.func13, Try.ntmps13
  go_wp2_with fail
  refine (szS_out v0 _ _ (by omega) (by omega) m0 m1 m2 m3 (by omega)).mono ?_
  rintro e w1 ⟨rfl, hb⟩
  have HB := hide (ba hb)
  clear hb
  go_wp2
  go_ret
  exact ⟨rfl, unhide HB⟩

set_option maxRecDepth 100000 in
set_option maxHeartbeats 16000000 in
theorem lawWidth_in (v0 : SV) (d0 : SD) (w : World) (hx0 : AllSl w [(v0.lo.num, d0.lo.num), (v0.lo.den, d0.lo.den), (v0.hi.num, d0.hi.num), (v0.hi.den, d0.hi.den)])  (h : v0.lo.num.n + v0.lo.den.n + v0.hi.num.n + v0.hi.den.n ≤ 1048576) :
    Calls Try.prog 13 #[.agg #[.bool v0.lo.num.g, .slice v0.lo.num.a v0.lo.num.n v0.lo.num.c, .bool v0.lo.den.g, .slice v0.lo.den.a v0.lo.den.n v0.lo.den.c, .bool v0.hi.num.g, .slice v0.hi.num.a v0.hi.num.n v0.hi.num.c, .bool v0.hi.den.g, .slice v0.hi.den.a v0.hi.den.n v0.hi.den.c]] w fun e w' => e = .returned (.bool true) ∧ Below w.heap.size w w' := by
  have HX0 := hide hx0
  clear hx0
  have l0 : v0.lo.num.n ≤ 1048576 := by omega
  have lm0 : v0.lo.num.n ≤ maxLen := by unfold maxLen; omega
  have l1 : v0.lo.den.n ≤ 1048576 := by omega
  have lm1 : v0.lo.den.n ≤ maxLen := by unfold maxLen; omega
  have l2 : v0.hi.num.n ≤ 1048576 := by omega
  have lm2 : v0.hi.num.n ≤ maxLen := by unfold maxLen; omega
  have l3 : v0.hi.den.n ≤ 1048576 := by omega
  have lm3 : v0.hi.den.n ≤ maxLen := by unfold maxLen; omega
  have hd0 : ¬ ((1048576 : Int) - (v0.lo.num.n : Int) - (v0.lo.den.n : Int) - (v0.hi.num.n : Int) - (v0.hi.den.n : Int) < 0) := by omega
  obtain ⟨U, HU⟩ : ∃ U : QD → Bool → Prop, Hid (U = AnsQ (gS d0) (lowN (nQ d0.hi * dQ d0.lo - nQ d0.lo * dQ d0.hi) (dQ d0.hi * dQ d0.lo)) (lowD (nQ d0.hi * dQ d0.lo - nQ d0.lo * dQ d0.hi) (dQ d0.hi * dQ d0.lo))) := ⟨_, hide rfl⟩
  have US : Hid (∀ d ok d' ok', U d ok → U d' ok' → d = d' ∧ ok = ok') := hide (by rw [unhide HU]; exact fun d ok d' ok' h k => h.same k)
  have UL : Hid (∀ d ok, U d ok → d.num.xs.length ≤ 40 ∧ d.den.xs.length ≤ 40) := hide (by rw [unhide HU]; exact fun d ok h => h.lens)
  have CS : Hid (∀ (q0 : SV) (w : World), AllAr w [(q0.lo.num, d0.lo.num), (q0.lo.den, d0.lo.den), (q0.hi.num, d0.hi.num), (q0.hi.den, d0.hi.den)] → Calls Try.prog 49 #[.agg #[.bool q0.lo.num.g, .slice q0.lo.num.a q0.lo.num.n q0.lo.num.c, .bool q0.lo.den.g, .slice q0.lo.den.a q0.lo.den.n q0.lo.den.c, .bool q0.hi.num.g, .slice q0.hi.num.a q0.hi.num.n q0.hi.num.c, .bool q0.hi.den.g, .slice q0.hi.den.a q0.hi.den.n q0.hi.den.c]] w (RetQ w U)) := hide (by rw [unhide HU]; exact fun q0 w h0 => WidthOfS q0 d0 w h0)
  have CI : Hid (∀ (q0 : SV) (w : World), AllAr w [(q0.lo.num, d0.lo.num), (q0.lo.den, d0.lo.den), (q0.hi.num, d0.hi.num), (q0.hi.den, d0.hi.den)] → Calls Try.prog 50 #[.agg #[.bool q0.lo.num.g, .slice q0.lo.num.a q0.lo.num.n q0.lo.num.c, .bool q0.lo.den.g, .slice q0.lo.den.a q0.lo.den.n q0.lo.den.c, .bool q0.hi.num.g, .slice q0.hi.num.a q0.hi.num.n q0.hi.num.c, .bool q0.hi.den.g, .slice q0.hi.den.a q0.hi.den.n q0.hi.den.c]] w (RetQ w U)) := hide (by rw [unhide HU]; exact fun q0 w h0 => WidthOfI q0 d0 w h0)
  clear HU
  go_enter Try.func13, Try.ntmps13
  go_wp2_with fail
  refine (szS_in v0 _ _ (by omega) (by omega) (by omega)).mono ?_
  rintro e w1 ⟨rfl, hb⟩
  have T := hide ((TlawWidth.start w v0 d0 38 (unhide HX0)).later hb)
  have z : w.heap.size + 1 ≤ w1.heap.size := by have := hb.size; simp at this; omega
  clear hb
  have p0 := (unhide T).x0_0
  have p1 := (unhide T).x0_1
  have p2 := (unhide T).x0_2
  have p3 := (unhide T).x0_3
  have p4 := (unhide T).x0_4
  have p5 := (unhide T).x0_5
  have p6 := (unhide T).x0_6
  have p7 := (unhide T).x0_7
  go_wp2_with fail
  refine (toS_at v0 d0 _ (unhide T).s0 l0 l1 l2 l3).mono ?_
  rintro e wa0x ⟨qa0, rfl, hb, hna, ow, ar⟩
  replace T := hide ((unhide T).later hb)
  have A0 := hide ar
  have sa0x := hb.size
  clear hb hna ow ar p0 p1 p2 p3 p4 p5 p6 p7
  go_wp2_with fail
  refine (unhide CS qa0 _ (unhide A0)).mono ?_
  rintro e ws ⟨vr, dr, okr, rfl, hb, hown, hu⟩
  have V0 := hide (VarQ.start 30 hown)
  have UR := hide hu
  have ss := hb.size
  replace T := hide (((unhide T).later hb).later ((Below.refl _ _).alloc (Nat.le_refl _) (.cells #[.bool vr.num.g, .slice vr.num.a vr.num.n vr.num.c, .bool vr.den.g, .slice vr.den.a vr.den.n vr.den.c] 30)))
  clear hb hown hu A0
  have zG1 : w.heap.size + 1 ≤ ws.heap.size := by omega
  have r0 : vr.num.n ≤ 40 := by rw [← ((unhide V0).own.own (vr.num, dr.num) (by simp)).len]; exact (unhide UL _ _ (unhide UR)).1
  have rm0 : vr.num.n ≤ maxLen := by unfold maxLen; omega
  have rl0 : vr.num.n ≤ 1048576 := by omega
  have r1 : vr.den.n ≤ 40 := by rw [← ((unhide V0).own.own (vr.den, dr.den) (by simp)).len]; exact (unhide UL _ _ (unhide UR)).2
  have rm1 : vr.den.n ≤ maxLen := by unfold maxLen; omega
  have rl1 : vr.den.n ≤ 1048576 := by omega
  have p0 := (unhide T).x0_0
  have p1 := (unhide T).x0_1
  have p2 := (unhide T).x0_2
  have p3 := (unhide T).x0_3
  have p4 := (unhide T).x0_4
  have p5 := (unhide T).x0_5
  have p6 := (unhide T).x0_6
  have p7 := (unhide T).x0_7
  go_wp2_with fail
  refine (toS_at v0 d0 _ (unhide T).s0 l0 l1 l2 l3).mono ?_
  rintro e wx0 ⟨y0, rfl, hb, hnn, ow0, ar0⟩
  have hn0 := hide hnn
  clear hnn
  have VX0 := hide (VarS.start 41 (ow0.wide (lo' := ws.heap.size + 1) (by simp) (Nat.le_refl _)))
  have AX0 := hide (ar0.later ((Below.refl _ _).alloc (Nat.le_refl _) (.cells #[.bool y0.lo.num.g, .slice y0.lo.num.a y0.lo.num.n y0.lo.num.c, .bool y0.lo.den.g, .slice y0.lo.den.a y0.lo.den.n y0.lo.den.c, .bool y0.hi.num.g, .slice y0.hi.num.a y0.hi.num.n y0.hi.num.c, .bool y0.hi.den.g, .slice y0.hi.den.a y0.hi.den.n y0.hi.den.c] 41)))
  have s0 : ws.heap.size + 1 ≤ wx0.heap.size := by have := hb.size; simp at this; omega
  replace V0 := hide ((unhide V0).later hb)
  replace T := hide ((unhide T).later hb)
  replace V0 := hide ((unhide V0).later ((Below.refl _ _).alloc (Nat.le_refl _) (.cells #[.bool y0.lo.num.g, .slice y0.lo.num.a y0.lo.num.n y0.lo.num.c, .bool y0.lo.den.g, .slice y0.lo.den.a y0.lo.den.n y0.lo.den.c, .bool y0.hi.num.g, .slice y0.hi.num.a y0.hi.num.n y0.hi.num.c, .bool y0.hi.den.g, .slice y0.hi.den.a y0.hi.den.n y0.hi.den.c] 41)))
  replace T := hide ((unhide T).later ((Below.refl _ _).alloc (Nat.le_refl _) (.cells #[.bool y0.lo.num.g, .slice y0.lo.num.a y0.lo.num.n y0.lo.num.c, .bool y0.lo.den.g, .slice y0.lo.den.a y0.lo.den.n y0.lo.den.c, .bool y0.hi.num.g, .slice y0.hi.num.a y0.hi.num.n y0.hi.num.c, .bool y0.hi.den.g, .slice y0.hi.den.a y0.hi.den.n y0.hi.den.c] 41)))
  clear hb ow0 ar0 p0 p1 p2 p3 p4 p5 p6 p7
  go_wp2_with fail
  refine (unhide CI y0 _ (unhide AX0)).mono ?_
  rintro e w5 ⟨vg, dg, okg, rfl, hb, hown, hu⟩
  obtain ⟨e1, e2⟩ := unhide US _ _ _ _ (unhide UR) hu
  subst e1 e2
  have VG := hide (VarQ.start 30 (hown.wide (lo' := wx0.heap.size + 1) (by simp) (Nat.le_refl _)))
  have sg : wx0.heap.size + 1 ≤ w5.heap.size := by have := hb.size; simp at this; omega
  have en0 : vg.num.n = vr.num.n := by rw [← ((unhide VG).own.own (vg.num, dr.num) (by simp)).len, ← ((unhide V0).own.own (vr.num, dr.num) (by simp)).len]
  have q0 : vg.num.n ≤ 40 := by omega
  have qm0 : vg.num.n ≤ maxLen := by omega
  have ql0 : vg.num.n ≤ 1048576 := by omega
  have en1 : vg.den.n = vr.den.n := by rw [← ((unhide VG).own.own (vg.den, dr.den) (by simp)).len, ← ((unhide V0).own.own (vr.den, dr.den) (by simp)).len]
  have q1 : vg.den.n ≤ 40 := by omega
  have qm1 : vg.den.n ≤ maxLen := by omega
  have ql1 : vg.den.n ≤ 1048576 := by omega
  clear AX0
  replace V0 := hide ((unhide V0).later hb)
  replace T := hide ((unhide T).later hb)
  replace VX0 := hide ((unhide VX0).later hb)
  clear hb hown hu
  replace V0 := hide ((unhide V0).later ((Below.refl _ _).alloc (Nat.le_refl _) (.cells #[.bool vg.num.g, .slice vg.num.a vg.num.n vg.num.c, .bool vg.den.g, .slice vg.den.a vg.den.n vg.den.c] 30)))
  replace T := hide ((unhide T).later ((Below.refl _ _).alloc (Nat.le_refl _) (.cells #[.bool vg.num.g, .slice vg.num.a vg.num.n vg.num.c, .bool vg.den.g, .slice vg.den.a vg.den.n vg.den.c] 30)))
  replace VX0 := hide ((unhide VX0).later ((Below.refl _ _).alloc (Nat.le_refl _) (.cells #[.bool vg.num.g, .slice vg.num.a vg.num.n vg.num.c, .bool vg.den.g, .slice vg.den.a vg.den.n vg.den.c] 30)))
  have enh0 := hide en0
  clear en0
  have enh1 := hide en1
  clear en1
  have p0 := (unhide V0).c0
  have p1 := (unhide V0).c1
  have p2 := (unhide V0).c2
  have p3 := (unhide V0).c3
  go_wp2_with fail
  refine (eqQ_at vg vr dr _ (unhide VG).own.sl (unhide V0).own.sl qm0 qm1).mono ?_
  rintro e w6 ⟨rfl, hb⟩
  clear p0 p1 p2 p3
  replace V0 := hide ((unhide V0).later hb)
  replace T := hide ((unhide T).later hb)
  replace VX0 := hide ((unhide VX0).later hb)
  replace VG := hide ((unhide VG).later hb)
  clear hb
  generalize wx0.heap.size = GX0 at *
  generalize w5.heap.size = GG at *
  generalize ws.heap.size = GC at *
  go_wp2_with fail
  have ka0 := (unhide T).x0_0
  have kx0 := (unhide VX0).c0
  have ka1 := (unhide T).x0_1
  have kx1 := (unhide VX0).c1
  have ka2 := (unhide T).x0_2
  have kx2 := (unhide VX0).c2
  have ka3 := (unhide T).x0_3
  have kx3 := (unhide VX0).c3
  have ka4 := (unhide T).x0_4
  have kx4 := (unhide VX0).c4
  have ka5 := (unhide T).x0_5
  have kx5 := (unhide VX0).c5
  have ka6 := (unhide T).x0_6
  have kx6 := (unhide VX0).c6
  have ka7 := (unhide T).x0_7
  have kx7 := (unhide VX0).c7
  go_region_held3 (fun w' => w'.cell? ⟨w.heap.size, 0, none⟩ = some (.bool v0.lo.num.g) ∧ w'.cell? ⟨w.heap.size, 1, none⟩ = some (.slice v0.lo.num.a v0.lo.num.n v0.lo.num.c) ∧ w'.cell? ⟨w.heap.size, 2, none⟩ = some (.bool v0.lo.den.g) ∧ w'.cell? ⟨w.heap.size, 3, none⟩ = some (.slice v0.lo.den.a v0.lo.den.n v0.lo.den.c) ∧ w'.cell? ⟨w.heap.size, 4, none⟩ = some (.bool v0.hi.num.g) ∧ w'.cell? ⟨w.heap.size, 5, none⟩ = some (.slice v0.hi.num.a v0.hi.num.n v0.hi.num.c) ∧ w'.cell? ⟨w.heap.size, 6, none⟩ = some (.bool v0.hi.den.g) ∧ w'.cell? ⟨w.heap.size, 7, none⟩ = some (.slice v0.hi.den.a v0.hi.den.n v0.hi.den.c) ∧ w'.cell? ⟨GX0, 0, none⟩ = some (.bool y0.lo.num.g) ∧ w'.cell? ⟨GX0, 1, none⟩ = some (.slice y0.lo.num.a y0.lo.num.n y0.lo.num.c) ∧ w'.cell? ⟨GX0, 2, none⟩ = some (.bool y0.lo.den.g) ∧ w'.cell? ⟨GX0, 3, none⟩ = some (.slice y0.lo.den.a y0.lo.den.n y0.lo.den.c) ∧ w'.cell? ⟨GX0, 4, none⟩ = some (.bool y0.hi.num.g) ∧ w'.cell? ⟨GX0, 5, none⟩ = some (.slice y0.hi.num.a y0.hi.num.n y0.hi.num.c) ∧ w'.cell? ⟨GX0, 6, none⟩ = some (.bool y0.hi.den.g) ∧ w'.cell? ⟨GX0, 7, none⟩ = some (.slice y0.hi.den.a y0.hi.den.n y0.hi.den.c)) (with_reducible (first | exact ⟨ka0, ka1, ka2, ka3, ka4, ka5, ka6, ka7, kx0, kx1, kx2, kx3, kx4, kx5, kx6, kx7⟩ | exact ⟨cd_other ka0, cd_other ka1, cd_other ka2, cd_other ka3, cd_other ka4, cd_other ka5, cd_other ka6, cd_other ka7, cd_other kx0, cd_other kx1, cd_other kx2, cd_other kx3, cd_other kx4, cd_other kx5, cd_other kx6, cd_other kx7⟩ | fail))
    (first
    | (go_at_call 36; refine (toS_at v0 d0 _ ?_ l0 l1 l2 l3).mono ?_; exact (unhide T).s0.later (Below.refl _ _).drew; rintro e w7 ⟨u7, rfl, hb', hn7, ow7, ar7⟩; have hb := below_of_drew hb'; replace V0 := hide ((unhide V0).later hb); replace T := hide ((unhide T).later hb); replace VX0 := hide ((unhide VX0).later hb); replace VG := hide ((unhide VG).later hb); replace ka0 := (unhide T).x0_0; replace kx0 := (unhide VX0).c0; replace ka1 := (unhide T).x0_1; replace kx1 := (unhide VX0).c1; replace ka2 := (unhide T).x0_2; replace kx2 := (unhide VX0).c2; replace ka3 := (unhide T).x0_3; replace kx3 := (unhide VX0).c3; replace ka4 := (unhide T).x0_4; replace kx4 := (unhide VX0).c4; replace ka5 := (unhide T).x0_5; replace kx5 := (unhide VX0).c5; replace ka6 := (unhide T).x0_6; replace kx6 := (unhide VX0).c6; replace ka7 := (unhide T).x0_7; replace kx7 := (unhide VX0).c7; have S7 := hide ow7.sl; clear hb hb' ow7 ar7 hn7)
    | (go_at_call 38; refine (eqS_at y0 u7 d0 _ (unhide VX0).own.sl (unhide S7) (by rw [(unhide hn0).1]; exact lm0) (by rw [(unhide hn0).2.1]; exact lm1) (by rw [(unhide hn0).2.2.1]; exact lm2) (by rw [(unhide hn0).2.2.2]; exact lm3)).mono ?_; rintro e w8 ⟨rfl, hb⟩; replace V0 := hide ((unhide V0).later hb); replace T := hide ((unhide T).later hb); replace VX0 := hide ((unhide VX0).later hb); replace VG := hide ((unhide VG).later hb); replace ka0 := (unhide T).x0_0; replace kx0 := (unhide VX0).c0; replace ka1 := (unhide T).x0_1; replace kx1 := (unhide VX0).c1; replace ka2 := (unhide T).x0_2; replace kx2 := (unhide VX0).c2; replace ka3 := (unhide T).x0_3; replace kx3 := (unhide VX0).c3; replace ka4 := (unhide T).x0_4; replace kx4 := (unhide VX0).c4; replace ka5 := (unhide T).x0_5; replace kx5 := (unhide VX0).c5; replace ka6 := (unhide T).x0_6; replace kx6 := (unhide VX0).c6; replace ka7 := (unhide T).x0_7; replace kx7 := (unhide VX0).c7; clear hb))
  clear S7 ka0 kx0 ka1 kx1 ka2 kx2 ka3 kx3 ka4 kx4 ka5 kx5 ka6 kx6 ka7 kx7
  have p0 := (unhide VX0).c0
  have p1 := (unhide VX0).c1
  have p2 := (unhide VX0).c2
  have p3 := (unhide VX0).c3
  have p4 := (unhide VX0).c4
  have p5 := (unhide VX0).c5
  have p6 := (unhide VX0).c6
  have p7 := (unhide VX0).c7
  have hl0 : y0.lo.num.n ≤ 1048576 := by rw [(unhide hn0).1]; exact l0
  have hl1 : y0.lo.den.n ≤ 1048576 := by rw [(unhide hn0).2.1]; exact l1
  have hl2 : y0.hi.num.n ≤ 1048576 := by rw [(unhide hn0).2.2.1]; exact l2
  have hl3 : y0.hi.den.n ≤ 1048576 := by rw [(unhide hn0).2.2.2]; exact l3
  go_wp2_with fail
  refine (markS_at y0 d0 [] [] 1 (GC + 1) GX0 _ (unhide VX0).own hl0 hl1 hl2 hl3 (by have := (unhide VX0).gt; omega) (by omega) (by have := (unhide hn0).1; have := (unhide hn0).2.1; have := (unhide hn0).2.2.1; have := (unhide hn0).2.2.2; omega)).mono ?_
  rintro e w10 ⟨rfl, hbt, hmk⟩
  replace T := hide ((unhide T).but hbt (by omega) (unhide HX0))
  replace V0 := hide ((unhide V0).but hbt (by omega) (by omega))
  replace VG := hide ((unhide VG).but hbt (by omega) (by omega))
  clear VX0 p0 p1 p2 p3 p4 p5 p6 p7 hbt hmk hl0 hl1 hl2 hl3
  have hk0 : decide ((1 : Int) + (y0.lo.num.n : Int) + (y0.lo.den.n : Int) + (y0.hi.num.n : Int) + (y0.hi.den.n : Int) < 0) = false := by simp; omega
  have p0 := (unhide VG).c0
  have pq0 := (unhide V0).c0
  have p1 := (unhide VG).c1
  have pq1 := (unhide V0).c1
  have p2 := (unhide VG).c2
  have pq2 := (unhide V0).c2
  have p3 := (unhide VG).c3
  have pq3 := (unhide V0).c3
  go_wp2_with fail
  refine (eqQ_at vg vr dr _ (unhide VG).own.sl (unhide V0).own.sl qm0 qm1).mono ?_
  rintro e w20 ⟨rfl, hb⟩
  clear p0 pq0 p1 pq1 p2 pq2 p3 pq3 hk0
  replace V0 := hide ((unhide V0).later hb)
  replace T := hide ((unhide T).later hb)
  replace VG := hide ((unhide VG).later hb)
  clear hb
  have p0 := (unhide VG).c0
  have p1 := (unhide VG).c1
  have p2 := (unhide VG).c2
  have p3 := (unhide VG).c3
  go_wp2_with fail
  refine (markQ_at vg dr [] [] 1 (GX0 + 1) GG _ (unhide VG).own ql0 ql1 (by have := (unhide VG).gt; omega) (by omega) (by omega)).mono ?_
  rintro e w21 ⟨rfl, hbt, hmk⟩
  replace T := hide ((unhide T).but hbt (by omega) (unhide HX0))
  replace V0 := hide ((unhide V0).but hbt (by omega) (by omega))
  replace VG := hide ((unhide VG).mark (d' := ⟨⟨dr.num.g, marks (1) vg.num.n⟩, ⟨dr.den.g, marks (1 + vg.num.n) vg.den.n⟩⟩) hbt (by omega) hmk)
  clear p0 p1 p2 p3 hbt hmk
  have p0 := (unhide VG).c0
  have p1 := (unhide VG).c1
  have p2 := (unhide VG).c2
  have p3 := (unhide VG).c3
  go_wp2_with fail
  refine (heldQ_at vg 1 _ ((unhide VG).own.sl (vg.num, ⟨dr.num.g, marks (1) vg.num.n⟩) (by simp)).sl ((unhide VG).own.sl (vg.den, ⟨dr.den.g, marks (1 + (vg.num.n : Int)) vg.den.n⟩) (by simp)).sl ql0 ql1 (by omega) (by omega)).mono ?_
  rintro e wk ⟨rfl, hb⟩
  replace V0 := hide ((unhide V0).later hb)
  replace T := hide ((unhide T).later hb)
  replace VG := hide ((unhide VG).later hb)
  have hr0 : ¬ ((1 : Int) + (vg.num.n : Int) + (vg.den.n : Int) < 0) := by omega
  have zk : w.heap.size + 1 ≤ wk.heap.size := by have h1 := (unhide VG).gt; omega
  clear p0 p1 p2 p3 hb
  have p0 := (unhide T).x0_0
  have p1 := (unhide T).x0_1
  have p2 := (unhide T).x0_2
  have p3 := (unhide T).x0_3
  have p4 := (unhide T).x0_4
  have p5 := (unhide T).x0_5
  have p6 := (unhide T).x0_6
  have p7 := (unhide T).x0_7
  go_wp2_with fail
  refine (toS_at v0 d0 _ (unhide T).s0 l0 l1 l2 l3).mono ?_
  rintro e wa0y ⟨qa0, rfl, hb, hna, ow, ar⟩
  replace T := hide ((unhide T).later hb)
  replace V0 := hide ((unhide V0).later hb)
  replace VG := hide ((unhide VG).later hb)
  have A0 := hide ar
  have sa0y := hb.size
  clear hb hna ow ar p0 p1 p2 p3 p4 p5 p6 p7
  go_wp2_with fail
  refine (unhide CI qa0 _ (unhide A0)).mono ?_
  rintro e wh ⟨vh, dh, okh, rfl, hb, hown, hu⟩
  obtain ⟨e1, e2⟩ := unhide US _ _ _ _ (unhide UR) hu
  subst e1 e2
  have VH := hide (VarQ.start 30 hown)
  replace T := hide ((unhide T).later hb)
  replace V0 := hide ((unhide V0).later hb)
  replace VG := hide ((unhide VG).later hb)
  replace T := hide ((unhide T).later ((Below.refl _ _).alloc (Nat.le_refl _) (.cells #[.bool vh.num.g, .slice vh.num.a vh.num.n vh.num.c, .bool vh.den.g, .slice vh.den.a vh.den.n vh.den.c] 30)))
  replace V0 := hide ((unhide V0).later ((Below.refl _ _).alloc (Nat.le_refl _) (.cells #[.bool vh.num.g, .slice vh.num.a vh.num.n vh.num.c, .bool vh.den.g, .slice vh.den.a vh.den.n vh.den.c] 30)))
  replace VG := hide ((unhide VG).later ((Below.refl _ _).alloc (Nat.le_refl _) (.cells #[.bool vh.num.g, .slice vh.num.a vh.num.n vh.num.c, .bool vh.den.g, .slice vh.den.a vh.den.n vh.den.c] 30)))
  clear hb hown hu A0
  have hm0 : vh.num.n ≤ maxLen := by rw [← ((unhide VH).own.own (vh.num, dr.num) (by simp)).len, ((unhide V0).own.own (vr.num, dr.num) (by simp)).len]; exact rm0
  have hm1 : vh.den.n ≤ maxLen := by rw [← ((unhide VH).own.own (vh.den, dr.den) (by simp)).len, ((unhide V0).own.own (vr.den, dr.den) (by simp)).len]; exact rm1
  have p0 := (unhide VH).c0
  have pq0 := (unhide V0).c0
  have p1 := (unhide VH).c1
  have pq1 := (unhide V0).c1
  have p2 := (unhide VH).c2
  have pq2 := (unhide V0).c2
  have p3 := (unhide VH).c3
  have pq3 := (unhide V0).c3
  go_wp2_with fail
  refine (eqQ_at vh vr dr _ (unhide VH).own.sl (unhide V0).own.sl hm0 hm1).mono ?_
  rintro e w30 ⟨rfl, hb⟩
  clear p0 pq0 p1 pq1 p2 pq2 p3 pq3
  replace T := hide ((unhide T).later hb)
  replace VG := hide ((unhide VG).later hb)
  clear hb VH V0
  have p0 := (unhide VG).c0
  have p1 := (unhide VG).c1
  have p2 := (unhide VG).c2
  have p3 := (unhide VG).c3
  go_wp2_with fail
  refine (heldQ_at vg 1 _ ((unhide VG).own.sl (vg.num, ⟨dr.num.g, marks (1) vg.num.n⟩) (by simp)).sl ((unhide VG).own.sl (vg.den, ⟨dr.den.g, marks (1 + (vg.num.n : Int)) vg.den.n⟩) (by simp)).sl ql0 ql1 (by omega) (by omega)).mono ?_
  rintro e w31 ⟨rfl, hb⟩
  replace T := hide ((unhide T).later hb)
  clear p0 p1 p2 p3 hb
  go_wp2
  go_ret
  exact ⟨rfl, (unhide T).bel⟩

theorem lawWidth_walk (v0 : SV) (d0 : SD) (w : World) (hx0 : AllSl w [(v0.lo.num, d0.lo.num), (v0.lo.den, d0.lo.den), (v0.hi.num, d0.hi.num), (v0.hi.den, d0.hi.den)])  (m0 : v0.lo.num.n ≤ maxLen) (m1 : v0.lo.den.n ≤ maxLen) (m2 : v0.hi.num.n ≤ maxLen) (m3 : v0.hi.den.n ≤ maxLen) :
    Calls Try.prog 13 #[.agg #[.bool v0.lo.num.g, .slice v0.lo.num.a v0.lo.num.n v0.lo.num.c, .bool v0.lo.den.g, .slice v0.lo.den.a v0.lo.den.n v0.lo.den.c, .bool v0.hi.num.g, .slice v0.hi.num.a v0.hi.num.n v0.hi.num.c, .bool v0.hi.den.g, .slice v0.hi.den.a v0.hi.den.n v0.hi.den.c]] w fun e w' => e = .returned (.bool true) ∧ Below w.heap.size w w' := by
  by_cases g0 : v0.lo.num.n + v0.lo.den.n + v0.hi.num.n + v0.hi.den.n ≤ 1048576
  · exact lawWidth_in v0 d0 w hx0  g0
  · exact lawWidth_out0 v0 w m0 m1 m2 m3 (by omega) (by omega)
end Go.Proofs.Ytlmeokeanihhoaa

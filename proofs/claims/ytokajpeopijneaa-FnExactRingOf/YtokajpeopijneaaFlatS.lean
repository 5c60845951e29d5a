/- The laws' functions over values of the kind Span: size, copy, comparison, marks. No condition beyond those typed. Written by mkpair.py. -/
import Derived.Test.YtokajpeopijneaaFlatQ
namespace Go.Proofs.Ytokajpeopijneaa
open Go.RowKit
set_option linter.unusedVariables false
set_option maxRecDepth 100000
set_option linter.unusedSimpArgs false

theorem AllSl.Sl {w : World} {v : SV} {d : SD} (h : AllSl w [(v.lo.num, d.lo.num), (v.lo.den, d.lo.den), (v.hi.num, d.hi.num), (v.hi.den, d.hi.den)]) : AllSl w [(v.lo.num, d.lo.num), (v.lo.den, d.lo.den)] := fun p hp => h p (show p ∈ [(v.lo.num, d.lo.num), (v.lo.den, d.lo.den), (v.hi.num, d.hi.num), (v.hi.den, d.hi.den)] from (List.mem_append_left [(v.hi.num, d.hi.num), (v.hi.den, d.hi.den)] hp : p ∈ [(v.lo.num, d.lo.num), (v.lo.den, d.lo.den)] ++ [(v.hi.num, d.hi.num), (v.hi.den, d.hi.den)]))
theorem AllSl.Sr {w : World} {v : SV} {d : SD} (h : AllSl w [(v.lo.num, d.lo.num), (v.lo.den, d.lo.den), (v.hi.num, d.hi.num), (v.hi.den, d.hi.den)]) : AllSl w [(v.hi.num, d.hi.num), (v.hi.den, d.hi.den)] := fun p hp => h p (show p ∈ [(v.lo.num, d.lo.num), (v.lo.den, d.lo.den), (v.hi.num, d.hi.num), (v.hi.den, d.hi.den)] from (List.mem_append_right [(v.lo.num, d.lo.num), (v.lo.den, d.lo.den)] hp : p ∈ [(v.lo.num, d.lo.num), (v.lo.den, d.lo.den)] ++ [(v.hi.num, d.hi.num), (v.hi.den, d.hi.den)]))
theorem AllAr.Sl {w : World} {v : SV} {d : SD} (h : AllAr w [(v.lo.num, d.lo.num), (v.lo.den, d.lo.den), (v.hi.num, d.hi.num), (v.hi.den, d.hi.den)]) : AllAr w [(v.lo.num, d.lo.num), (v.lo.den, d.lo.den)] := fun p hp => h p (show p ∈ [(v.lo.num, d.lo.num), (v.lo.den, d.lo.den), (v.hi.num, d.hi.num), (v.hi.den, d.hi.den)] from (List.mem_append_left [(v.hi.num, d.hi.num), (v.hi.den, d.hi.den)] hp : p ∈ [(v.lo.num, d.lo.num), (v.lo.den, d.lo.den)] ++ [(v.hi.num, d.hi.num), (v.hi.den, d.hi.den)]))
theorem AllAr.Sr {w : World} {v : SV} {d : SD} (h : AllAr w [(v.lo.num, d.lo.num), (v.lo.den, d.lo.den), (v.hi.num, d.hi.num), (v.hi.den, d.hi.den)]) : AllAr w [(v.hi.num, d.hi.num), (v.hi.den, d.hi.den)] := fun p hp => h p (show p ∈ [(v.lo.num, d.lo.num), (v.lo.den, d.lo.den), (v.hi.num, d.hi.num), (v.hi.den, d.hi.den)] from (List.mem_append_right [(v.lo.num, d.lo.num), (v.lo.den, d.lo.den)] hp : p ∈ [(v.lo.num, d.lo.num), (v.lo.den, d.lo.den)] ++ [(v.hi.num, d.hi.num), (v.hi.den, d.hi.den)]))

set_option maxHeartbeats 1000000 in
theorem eqS_at (v v' : SV) (d : SD) (w : World) (h : AllSl w [(v.lo.num, d.lo.num), (v.lo.den, d.lo.den), (v.hi.num, d.hi.num), (v.hi.den, d.hi.den)]) (h' : AllSl w [(v'.lo.num, d.lo.num), (v'.lo.den, d.lo.den), (v'.hi.num, d.hi.num), (v'.hi.den, d.hi.den)]) (hm0 : v.lo.num.n ≤ maxLen) (hm1 : v.lo.den.n ≤ maxLen) (hm2 : v.hi.num.n ≤ maxLen) (hm3 : v.hi.den.n ≤ maxLen) :
    Calls Try.prog 23 #[.agg #[.bool v.lo.num.g, .slice v.lo.num.a v.lo.num.n v.lo.num.c, .bool v.lo.den.g, .slice v.lo.den.a v.lo.den.n v.lo.den.c, .bool v.hi.num.g, .slice v.hi.num.a v.hi.num.n v.hi.num.c, .bool v.hi.den.g, .slice v.hi.den.a v.hi.den.n v.hi.den.c], .agg #[.bool v'.lo.num.g, .slice v'.lo.num.a v'.lo.num.n v'.lo.num.c, .bool v'.lo.den.g, .slice v'.lo.den.a v'.lo.den.n v'.lo.den.c, .bool v'.hi.num.g, .slice v'.hi.num.a v'.hi.num.n v'.hi.num.c, .bool v'.hi.den.g, .slice v'.hi.den.a v'.hi.den.n v'.hi.den.c]] w fun e w' => e = .returned (.bool true) ∧ Below w.heap.size w w' := by
  have HX := hide h
  have HX' := hide h'
  clear h h'
  have B2 := hide (below_two w (.cells #[.bool v.lo.num.g, .slice v.lo.num.a v.lo.num.n v.lo.num.c, .bool v.lo.den.g, .slice v.lo.den.a v.lo.den.n v.lo.den.c, .bool v.hi.num.g, .slice v.hi.num.a v.hi.num.n v.hi.num.c, .bool v.hi.den.g, .slice v.hi.den.a v.hi.den.n v.hi.den.c] 44) (.cells #[.bool v'.lo.num.g, .slice v'.lo.num.a v'.lo.num.n v'.lo.num.c, .bool v'.lo.den.g, .slice v'.lo.den.a v'.lo.den.n v'.lo.den.c, .bool v'.hi.num.g, .slice v'.hi.num.a v'.hi.num.n v'.hi.num.c, .bool v'.hi.den.g, .slice v'.hi.den.a v'.hi.den.n v'.hi.den.c] 44))
  go_enter Try.func23, Try.ntmps23
  go_wp2_with fail
  refine (eqQ_at v.lo v'.lo d.lo _ ((unhide HX).Sl.later (unhide B2)) ((unhide HX').Sl.later (unhide B2)) hm0 hm1).mono ?_
  rintro e w1 ⟨rfl, hb1⟩
  have x4 : w1.cell? ⟨w.heap.size, 4, none⟩ = some (.bool v.hi.num.g) := cell_later hb1 (by simp [go_sem])
  have x5 : w1.cell? ⟨w.heap.size, 5, none⟩ = some (.slice v.hi.num.a v.hi.num.n v.hi.num.c) := cell_later hb1 (by simp [go_sem])
  have x6 : w1.cell? ⟨w.heap.size, 6, none⟩ = some (.bool v.hi.den.g) := cell_later hb1 (by simp [go_sem])
  have x7 : w1.cell? ⟨w.heap.size, 7, none⟩ = some (.slice v.hi.den.a v.hi.den.n v.hi.den.c) := cell_later hb1 (by simp [go_sem])
  have y4 : w1.cell? ⟨w.heap.size + 1, 4, none⟩ = some (.bool v'.hi.num.g) := cell_later hb1 (by simp [go_sem])
  have y5 : w1.cell? ⟨w.heap.size + 1, 5, none⟩ = some (.slice v'.hi.num.a v'.hi.num.n v'.hi.num.c) := cell_later hb1 (by simp [go_sem])
  have y6 : w1.cell? ⟨w.heap.size + 1, 6, none⟩ = some (.bool v'.hi.den.g) := cell_later hb1 (by simp [go_sem])
  have y7 : w1.cell? ⟨w.heap.size + 1, 7, none⟩ = some (.slice v'.hi.den.a v'.hi.den.n v'.hi.den.c) := cell_later hb1 (by simp [go_sem])
  have HB := hide (below_two' hb1)
  clear hb1
  go_wp2_with fail
  refine (eqQ_at v.hi v'.hi d.hi _ ((unhide HX).Sr.later (unhide HB)) ((unhide HX').Sr.later (unhide HB)) hm2 hm3).mono ?_
  rintro e w2 ⟨rfl, hb2⟩
  have HB2 := hide (below_on (unhide HB) hb2)
  clear hb2
  go_wp2
  go_ret
  exact ⟨rfl, unhide HB2⟩

theorem re_assocS {lo hi : Nat} {w : World} {pre post xs ys : List (BV × BD)} (h : AllOwn lo hi w (pre ++ (xs ++ (ys ++ post)))) : AllOwn lo hi w ((pre ++ xs) ++ (ys ++ post)) := by rw [List.append_assoc]; exact h
end Go.Proofs.Ytokajpeopijneaa

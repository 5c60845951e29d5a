/- The laws' functions over values of the kind Rat: size, copy, comparison, marks. No condition beyond those typed. Written by mkpair.py. -/
import Derived.Test.YtokajpeopijneaaFlat
namespace Go.Proofs.Ytokajpeopijneaa
open Go.RowKit
set_option linter.unusedVariables false
set_option maxRecDepth 100000
set_option linter.unusedSimpArgs false

theorem AllSl.Ql {w : World} {v : QV} {d : QD} (h : AllSl w [(v.num, d.num), (v.den, d.den)]) : AllSl w [(v.num, d.num)] := fun p hp => h p (show p ∈ [(v.num, d.num), (v.den, d.den)] from (List.mem_append_left [(v.den, d.den)] hp : p ∈ [(v.num, d.num)] ++ [(v.den, d.den)]))
theorem AllSl.Qr {w : World} {v : QV} {d : QD} (h : AllSl w [(v.num, d.num), (v.den, d.den)]) : AllSl w [(v.den, d.den)] := fun p hp => h p (show p ∈ [(v.num, d.num), (v.den, d.den)] from (List.mem_append_right [(v.num, d.num)] hp : p ∈ [(v.num, d.num)] ++ [(v.den, d.den)]))
theorem AllAr.Ql {w : World} {v : QV} {d : QD} (h : AllAr w [(v.num, d.num), (v.den, d.den)]) : AllAr w [(v.num, d.num)] := fun p hp => h p (show p ∈ [(v.num, d.num), (v.den, d.den)] from (List.mem_append_left [(v.den, d.den)] hp : p ∈ [(v.num, d.num)] ++ [(v.den, d.den)]))
theorem AllAr.Qr {w : World} {v : QV} {d : QD} (h : AllAr w [(v.num, d.num), (v.den, d.den)]) : AllAr w [(v.den, d.den)] := fun p hp => h p (show p ∈ [(v.num, d.num), (v.den, d.den)] from (List.mem_append_right [(v.num, d.num)] hp : p ∈ [(v.num, d.num)] ++ [(v.den, d.den)]))

set_option maxHeartbeats 1000000 in
theorem eqQ_at (v v' : QV) (d : QD) (w : World) (h : AllSl w [(v.num, d.num), (v.den, d.den)]) (h' : AllSl w [(v'.num, d.num), (v'.den, d.den)]) (hm0 : v.num.n ≤ maxLen) (hm1 : v.den.n ≤ maxLen) :
    Calls Try.prog 33 #[.agg #[.bool v.num.g, .slice v.num.a v.num.n v.num.c, .bool v.den.g, .slice v.den.a v.den.n v.den.c], .agg #[.bool v'.num.g, .slice v'.num.a v'.num.n v'.num.c, .bool v'.den.g, .slice v'.den.a v'.den.n v'.den.c]] w fun e w' => e = .returned (.bool true) ∧ Below w.heap.size w w' := by
  have HX := hide h
  have HX' := hide h'
  clear h h'
  have B2 := hide (below_two w (.cells #[.bool v.num.g, .slice v.num.a v.num.n v.num.c, .bool v.den.g, .slice v.den.a v.den.n v.den.c] 42) (.cells #[.bool v'.num.g, .slice v'.num.a v'.num.n v'.num.c, .bool v'.den.g, .slice v'.den.a v'.den.n v'.den.c] 42))
  go_enter Try.func33, Try.ntmps33
  go_wp2_with fail
  refine (eqB_at v.num v'.num d.num _ ((unhide HX).Ql.head.later (unhide B2)) ((unhide HX').Ql.head.later (unhide B2)) hm0).mono ?_
  rintro e w1 ⟨rfl, hb1⟩
  have x2 : w1.cell? ⟨w.heap.size, 2, none⟩ = some (.bool v.den.g) := cell_later hb1 (by simp [go_sem])
  have x3 : w1.cell? ⟨w.heap.size, 3, none⟩ = some (.slice v.den.a v.den.n v.den.c) := cell_later hb1 (by simp [go_sem])
  have y2 : w1.cell? ⟨w.heap.size + 1, 2, none⟩ = some (.bool v'.den.g) := cell_later hb1 (by simp [go_sem])
  have y3 : w1.cell? ⟨w.heap.size + 1, 3, none⟩ = some (.slice v'.den.a v'.den.n v'.den.c) := cell_later hb1 (by simp [go_sem])
  have HB := hide (below_two' hb1)
  clear hb1
  go_wp2_with fail
  refine (eqB_at v.den v'.den d.den _ ((unhide HX).Qr.head.later (unhide HB)) ((unhide HX').Qr.head.later (unhide HB)) hm1).mono ?_
  rintro e w2 ⟨rfl, hb2⟩
  have HB2 := hide (below_on (unhide HB) hb2)
  clear hb2
  go_wp2
  go_ret
  exact ⟨rfl, unhide HB2⟩

theorem re_assocQ {lo hi : Nat} {w : World} {pre post xs ys : List (BV × BD)} (h : AllOwn lo hi w (pre ++ (xs ++ (ys ++ post)))) : AllOwn lo hi w ((pre ++ xs) ++ (ys ++ post)) := by rw [List.append_assoc]; exact h
end Go.Proofs.Ytokajpeopijneaa

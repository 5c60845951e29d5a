/- The laws' functions over values of the kind Rat: size, copy, comparison, marks. No condition beyond those typed. Written by mkpair.py. -/
import Derived.Test.YtdgonpbponnnaaaGreatDoorFlat
namespace Go.Proofs.YtdgonpbponnnaaaGreatDoor
open Go.RowKit
set_option linter.unusedVariables false
set_option maxRecDepth 100000
set_option linter.unusedSimpArgs false

theorem AllSl.Ql {w : World} {v : QV} {d : QD} (h : AllSl w [(v.num, d.num), (v.den, d.den)]) : AllSl w [(v.num, d.num)] := fun p hp => h p (show p ∈ [(v.num, d.num), (v.den, d.den)] from (List.mem_append_left [(v.den, d.den)] hp : p ∈ [(v.num, d.num)] ++ [(v.den, d.den)]))
theorem AllSl.Qr {w : World} {v : QV} {d : QD} (h : AllSl w [(v.num, d.num), (v.den, d.den)]) : AllSl w [(v.den, d.den)] := fun p hp => h p (show p ∈ [(v.num, d.num), (v.den, d.den)] from (List.mem_append_right [(v.num, d.num)] hp : p ∈ [(v.num, d.num)] ++ [(v.den, d.den)]))
theorem AllAr.Ql {w : World} {v : QV} {d : QD} (h : AllAr w [(v.num, d.num), (v.den, d.den)]) : AllAr w [(v.num, d.num)] := fun p hp => h p (show p ∈ [(v.num, d.num), (v.den, d.den)] from (List.mem_append_left [(v.den, d.den)] hp : p ∈ [(v.num, d.num)] ++ [(v.den, d.den)]))
theorem AllAr.Qr {w : World} {v : QV} {d : QD} (h : AllAr w [(v.num, d.num), (v.den, d.den)]) : AllAr w [(v.den, d.den)] := fun p hp => h p (show p ∈ [(v.num, d.num), (v.den, d.den)] from (List.mem_append_right [(v.num, d.num)] hp : p ∈ [(v.num, d.num)] ++ [(v.den, d.den)]))

theorem re_assocQ {lo hi : Nat} {w : World} {pre post xs ys : List (BV × BD)} (h : AllOwn lo hi w (pre ++ (xs ++ (ys ++ post)))) : AllOwn lo hi w ((pre ++ xs) ++ (ys ++ post)) := by rw [List.append_assoc]; exact h
end Go.Proofs.YtdgonpbponnnaaaGreatDoor

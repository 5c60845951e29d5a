/- The laws' functions over values of the kind Span: size, copy, comparison, marks. No condition beyond those typed. Written by mkpair.py. -/
import Derived.Test.YtdgonpbponnnaaaGreatDoorFlatQ
namespace Go.Proofs.YtdgonpbponnnaaaGreatDoor
open Go.RowKit
set_option linter.unusedVariables false
set_option maxRecDepth 100000
set_option linter.unusedSimpArgs false

theorem AllSl.Sl {w : World} {v : SV} {d : SD} (h : AllSl w [(v.lo.num, d.lo.num), (v.lo.den, d.lo.den), (v.hi.num, d.hi.num), (v.hi.den, d.hi.den)]) : AllSl w [(v.lo.num, d.lo.num), (v.lo.den, d.lo.den)] := fun p hp => h p (show p ∈ [(v.lo.num, d.lo.num), (v.lo.den, d.lo.den), (v.hi.num, d.hi.num), (v.hi.den, d.hi.den)] from (List.mem_append_left [(v.hi.num, d.hi.num), (v.hi.den, d.hi.den)] hp : p ∈ [(v.lo.num, d.lo.num), (v.lo.den, d.lo.den)] ++ [(v.hi.num, d.hi.num), (v.hi.den, d.hi.den)]))
theorem AllSl.Sr {w : World} {v : SV} {d : SD} (h : AllSl w [(v.lo.num, d.lo.num), (v.lo.den, d.lo.den), (v.hi.num, d.hi.num), (v.hi.den, d.hi.den)]) : AllSl w [(v.hi.num, d.hi.num), (v.hi.den, d.hi.den)] := fun p hp => h p (show p ∈ [(v.lo.num, d.lo.num), (v.lo.den, d.lo.den), (v.hi.num, d.hi.num), (v.hi.den, d.hi.den)] from (List.mem_append_right [(v.lo.num, d.lo.num), (v.lo.den, d.lo.den)] hp : p ∈ [(v.lo.num, d.lo.num), (v.lo.den, d.lo.den)] ++ [(v.hi.num, d.hi.num), (v.hi.den, d.hi.den)]))
theorem AllAr.Sl {w : World} {v : SV} {d : SD} (h : AllAr w [(v.lo.num, d.lo.num), (v.lo.den, d.lo.den), (v.hi.num, d.hi.num), (v.hi.den, d.hi.den)]) : AllAr w [(v.lo.num, d.lo.num), (v.lo.den, d.lo.den)] := fun p hp => h p (show p ∈ [(v.lo.num, d.lo.num), (v.lo.den, d.lo.den), (v.hi.num, d.hi.num), (v.hi.den, d.hi.den)] from (List.mem_append_left [(v.hi.num, d.hi.num), (v.hi.den, d.hi.den)] hp : p ∈ [(v.lo.num, d.lo.num), (v.lo.den, d.lo.den)] ++ [(v.hi.num, d.hi.num), (v.hi.den, d.hi.den)]))
theorem AllAr.Sr {w : World} {v : SV} {d : SD} (h : AllAr w [(v.lo.num, d.lo.num), (v.lo.den, d.lo.den), (v.hi.num, d.hi.num), (v.hi.den, d.hi.den)]) : AllAr w [(v.hi.num, d.hi.num), (v.hi.den, d.hi.den)] := fun p hp => h p (show p ∈ [(v.lo.num, d.lo.num), (v.lo.den, d.lo.den), (v.hi.num, d.hi.num), (v.hi.den, d.hi.den)] from (List.mem_append_right [(v.lo.num, d.lo.num), (v.lo.den, d.lo.den)] hp : p ∈ [(v.lo.num, d.lo.num), (v.lo.den, d.lo.den)] ++ [(v.hi.num, d.hi.num), (v.hi.den, d.hi.den)]))

theorem re_assocS {lo hi : Nat} {w : World} {pre post xs ys : List (BV × BD)} (h : AllOwn lo hi w (pre ++ (xs ++ (ys ++ post)))) : AllOwn lo hi w ((pre ++ xs) ++ (ys ++ post)) := by rw [List.append_assoc]; exact h
end Go.Proofs.YtdgonpbponnnaaaGreatDoor

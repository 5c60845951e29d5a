/- AddBig and SubBig: the program's and the specification's, at every two numbers: they answer the sum or the difference, where both are good and it fits. No condition beyond those typed. -/
import Derived.Test.YtdgonpbponnnaaaFit
namespace Go.Proofs.Ytdgonpbponnnaaa
open Go.RowKit
set_option linter.unusedVariables false
set_option maxRecDepth 100000
set_option linter.unusedSimpArgs false

theorem outA_of {w w2 : World} {P : Bool} {V : Int} {gr : Bool} {a : Option Addr} {n c : Nat} {ts : List Int} {ok : Bool} {s : Nat} (hs : w.heap.size ≤ s) (hb : Below w.heap.size w w2) (ho : Own (s + 1) w2 a ts) (ha : Arg w2 a n c ts) (h : Ans P V gr ts ok) (v v' : Value) :
    OutA w P V (.returned (.tuple #[.agg #[.bool gr, .slice a n c], .bool ok])) ((w2.setCell ⟨s, 0, none⟩ v).setCell ⟨s, 1, none⟩ v') := by
  obtain ⟨f1, f2, f3⟩ := fin_set hs hb ho ha v v'
  exact ⟨gr, a, n, c, ts, ok, rfl, f1, f2, f3, h⟩
theorem outA_no {w w2 : World} {V : Int} {s : Nat} (hs : w.heap.size ≤ s) (hb : Below w.heap.size w w2) (v v' : Value) :
    OutA w false V (.returned (.tuple #[.agg #[.bool false, .slice none 0 0], .bool false])) ((w2.setCell ⟨s, 0, none⟩ v).setCell ⟨s, 1, none⟩ v') :=
  ⟨false, none, 0, 0, [], false, rfl, (hb.setCell hs _).setCell hs _, .inl rfl, Arg.none _, .inr ⟨rfl, rfl, rfl, rfl⟩⟩

end Go.Proofs.Ytdgonpbponnnaaa

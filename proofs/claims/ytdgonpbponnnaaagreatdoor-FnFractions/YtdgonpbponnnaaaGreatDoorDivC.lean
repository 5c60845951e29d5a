/- DivBig of the program: what it tells may be asked on. No condition beyond those typed. -/
import Derived.Test.YtdgonpbponnnaaaGreatDoorDivB
import Derived.Test.YtdgonpbponnnaaaGreatDoorCurD
namespace Go.Proofs.YtdgonpbponnnaaaGreatDoor
open Go.RowKit
set_option linter.unusedVariables false
set_option maxRecDepth 100000
set_option linter.unusedSimpArgs false

theorem zAr (w : World) : AllAr w [((⟨false, none, 0, 0⟩ : BV), (⟨false, []⟩ : BD))] := AllAr.cons ⟨rfl, Arg.none _⟩ (AllAr.nil _)
def RetDa (w : World) (U : QD → Bool → Prop) (e : Ending) (w' : World) : Prop := ∃ (v : QV) (d : QD) (ok : Bool), e = .returned (.tuple #[.agg #[.bool v.num.g, .slice v.num.a v.num.n v.num.c], .agg #[.bool v.den.g, .slice v.den.a v.den.n v.den.c], .bool ok]) ∧ Below w.heap.size w w' ∧ AllAr w' [(v.num, d.num)] ∧ AllAr w' [(v.den, d.den)] ∧ U d ok
theorem retDa_fin {w wN : World} {R : Nat} {v : QV} {d : QD} {ok : Bool} {U : QD → Bool → Prop} (hR : w.heap.size ≤ R) (hb : Below w.heap.size w wN) (ho : AllOwn (R + 1 + 1) wN.heap.size wN [(v.num, d.num), (v.den, d.den)]) (q1 : AllAr wN [(v.num, d.num)]) (q2 : AllAr wN [(v.den, d.den)]) (hu : U d ok) :
    RetDa w U (.returned (.tuple #[.agg #[.bool v.num.g, .slice v.num.a v.num.n v.num.c], .agg #[.bool v.den.g, .slice v.den.a v.den.n v.den.c], .bool ok])) ((((wN.setCell ⟨R, 0, none⟩ (.bool v.num.g)).setCell ⟨R, 1, none⟩ (.slice v.num.a v.num.n v.num.c)).setCell ⟨R + 1, 0, none⟩ (.bool v.den.g)).setCell ⟨R + 1, 1, none⟩ (.slice v.den.a v.den.n v.den.c)) := by
  have bt1 := metB_but (w5 := wN) (v := v.num) (G := R)
  have bt2 := metB_but (w5 := (wN.setCell ⟨R, 0, none⟩ (.bool v.num.g)).setCell ⟨R, 1, none⟩ (.slice v.num.a v.num.n v.num.c)) (v := v.den) (G := R + 1)
  have h1 := bt1.below hb hR hb.size
  have o1 : AllOwn (R + 1 + 1) wN.heap.size wN [(v.num, d.num)] := AllOwn.one (ho.own (v.num, d.num) (by simp))
  have o2 : AllOwn (R + 1 + 1) wN.heap.size wN [(v.den, d.den)] := AllOwn.one (ho.own (v.den, d.den) (by simp))
  exact ⟨v, d, ok, rfl, bt2.below h1 (by omega) h1.size, ar_keep2 (o1.but bt1 (.inr (by omega))) (ar_keep2 o1 q1 bt1 (by omega)) bt2 (by omega), ar_keep2 (o2.but bt1 (.inr (by omega))) (ar_keep2 o2 q2 bt1 (by omega)) bt2 (by omega), hu⟩
end Go.Proofs.YtdgonpbponnnaaaGreatDoor

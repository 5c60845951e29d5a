/- Differences of limbs: the specification's l1SubLimbs. No condition beyond those typed. -/
import Derived.Test.YtdgonpbponnnaaaAddS
namespace Go.Proofs.Ytdgonpbponnnaaa
open Go.RowKit
set_option linter.unusedVariables false
set_option maxRecDepth 100000
set_option linter.unusedSimpArgs false

theorem Sl.drewN {w : World} {a : Option Addr} {xs : List Int} (h : Sl w a xs) (n : Nat) : Sl (w.drewN n) a xs := h.later (Nat.le_refl _) (below_drewN (Below.refl _ _) n)

theorem owns_drewN {w : World} {base : Nat} {e : TypeId} {size : Nat} {v : Value} {n : Nat} {xs : List Value} (h : w.ownsRow base e size v n xs) (k : Nat) : (w.drewN k).ownsRow base e size v n xs := h

end Go.Proofs.Ytdgonpbponnnaaa

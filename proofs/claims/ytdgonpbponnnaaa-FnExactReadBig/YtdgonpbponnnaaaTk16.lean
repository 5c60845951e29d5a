/- strconv's table of powers, Itoa, Repeat of noughts. No condition beyond those typed. Written by mkbt16.py. -/
import Derived.Test.YtdgonpbponnnaaaDg16
import Derived.Test.YtdgonpbponnnaaaShelf
import Derived.Lib.Join
import Derived.Lib.LaidTab
namespace Go.Proofs.Ytdgonpbponnnaaa
open Go.RowKit
set_option linter.unusedVariables false
set_option maxRecDepth 100000
set_option linter.unusedSimpArgs false

/-- strconv's table of powers lies where it is laid. -/
structure Tab15 (w : World) : Prop where
  is : Lib.TabIs Try.prog w "internal/strconv.uint64pow10" .u64 Lib.pow10Tab
end Go.Proofs.Ytdgonpbponnnaaa

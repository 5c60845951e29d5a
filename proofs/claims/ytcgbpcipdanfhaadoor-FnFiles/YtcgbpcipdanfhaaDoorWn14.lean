/- Windows: their copies, and GoodWindow of both sides. No condition beyond those typed. Written by mkin14.py. -/
import Derived.Test.YtcgbpcipdanfhaaDoorIn14
import Derived.Test.YtcgbpcipdanfhaaDoorIm8
namespace Go.Proofs.YtcgbpcipdanfhaaDoor
open Go.RowKit
set_option linter.unusedVariables false
set_option maxRecDepth 100000
set_option linter.unusedSimpArgs false

/-- A window that is good. -/
def gW (x y u v : Int) : Bool := inR x (-20) 20 && inR y (-20) 20 && inR u 1 8 && inR v 1 8
end Go.Proofs.YtcgbpcipdanfhaaDoor

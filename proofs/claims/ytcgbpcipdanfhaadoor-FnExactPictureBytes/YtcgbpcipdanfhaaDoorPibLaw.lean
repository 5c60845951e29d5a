/- The walk through the law FnExactPictureBytes: it returns true. No condition beyond those typed. Written by mkilaw.py. -/
import Derived.Test.YtcgbpcipdanfhaaDoorPb15
namespace Go.Proofs.YtcgbpcipdanfhaaDoor
open Go.RowKit
set_option linter.unusedVariables false
set_option maxRecDepth 100000
set_option linter.unusedSimpArgs false

set_option maxHeartbeats 8000000 in
theorem lawPictureBytes_walk (x0 : Int) (x1 : Int) (a : Option Addr) (n c : Nat) (xs : List Int) (w : World) (h : Sl w a xs) (hn : xs.length = n) (zx0 : -9223372036854775808 ≤ x0 ∧ x0 ≤ 9223372036854775807) (zx1 : -9223372036854775808 ≤ x1 ∧ x1 ≤ 9223372036854775807) (hm : n ≤ maxLen) :
    Calls Tryd.prog 7 #[.int .i64 x0, .int .i64 x1, .slice a n c] w fun e w' => e = .returned (.bool true) ∧ Below w.heap.size w w' := by
  by_cases hbig : 1048576 < n
  · have hd : (1048576 : Int) < (n : Int) := by omega
    clear h hn zx0 zx1
    go_enter Tryd.func7, Tryd.ntmps7
    go_wp2
    go_ret
    exact ⟨rfl, Below.refl _ _⟩
  have hd : ¬ ((1048576 : Int) < (n : Int)) := by omega
  have n1 : n ≤ 1048576 := by omega
  clear hbig
  have HS := hide h.below8
  have HN := hide hn
  have HM := hide hm
  clear h hn hm
  have CS := hide (fun (a' : Option Addr) (c' : Nat) (w' : World) (k : Arg w' a' n c' xs) => PictureBytesS a' n c' xs x0 x1 w' k n1 zx0 zx1)
  have CI := hide (fun (a' : Option Addr) (c' : Nat) (w' : World) (k : Arg w' a' n c' xs) => PictureBytesI a' n c' xs x0 x1 w' k n1 zx0 zx1)
  clear zx0 zx1
  generalize pbV x0 x1 xs = v0 at CS CI
  have e0 : (v0 != v0) = false := st_ne v0
  generalize pbB x0 x1 xs = v1 at CS CI
  have e1 : (v1 != v1) = false := by simp
  have TI := hide (fun (w' : World) (k : Sl w' a xs) => toI_own a n c xs w' k (unhide HN) n1)
  go_enter Tryd.func7, Tryd.ntmps7
  go_wp2_with fail
  refine (unhide TI _ (unhide HS).sl).mono ?_
  rintro e w2a ⟨gw2, rfl, hb, ow⟩
  have szw2a := hb.size
  replace HS := hide ((unhide HS).later hb)
  have O1 := hide (ow)
  have HB := hide (hb)
  clear hb
  clear ow
  go_wp2_with fail
  refine (unhide CS _ _ _ (unhide O1).arg).mono ?_
  rintro e w2 ⟨rfl, hb⟩
  replace HS := hide ((unhide HS).later hb)
  replace O1 := hide ((unhide O1).later hb)
  replace HB := hide (below_on (unhide HB) hb)
  clear hb
  clear O1
  have b2 : w.heap.size ≤ w2.heap.size := (unhide HB).size
  go_wp2_with fail
  refine (unhide TI _ (unhide HS).sl).mono ?_
  rintro e w4 ⟨gx, rfl, hb, ow⟩
  have szw4 := hb.size
  replace HS := hide ((unhide HS).later hb)
  have O2 := hide (ow)
  replace HB := hide (below_on (unhide HB) hb)
  clear hb
  clear ow
  go_wp2_with fail
  refine (unhide CI _ _ _ (unhide O2).arg).mono ?_
  rintro e w6 ⟨rfl, hb⟩
  replace HS := hide ((unhide HS).later hb)
  replace O2 := hide ((unhide O2).later hb)
  replace HB := hide (below_on (unhide HB) hb)
  clear hb
  go_wp2_with fail
  refine (unhide TI _ (unhide HS).sl).mono ?_
  rintro e w8 ⟨gy, rfl, hb, ow⟩
  have szw8 := hb.size
  replace HS := hide ((unhide HS).later hb)
  replace O2 := hide ((unhide O2).later hb)
  have O3 := hide (ow)
  replace HB := hide (below_on (unhide HB) hb)
  clear hb
  clear ow
  go_wp2_with fail
  refine (eqI_same _ _ n n n xs _ (unhide O2).arg.sl (unhide O3).arg.sl (unhide HN) (unhide HM)).mono ?_
  rintro e w9 ⟨rfl, hb⟩
  have szw9 := hb.size
  replace HS := hide ((unhide HS).later hb)
  replace O2 := hide ((unhide O2).later hb)
  replace O3 := hide ((unhide O3).later hb)
  replace HB := hide (below_on (unhide HB) hb)
  clear hb
  clear O3
  go_wp2_with fail
  go_ret
  exact ⟨rfl, unhide HB⟩
end Go.Proofs.YtcgbpcipdanfhaaDoor

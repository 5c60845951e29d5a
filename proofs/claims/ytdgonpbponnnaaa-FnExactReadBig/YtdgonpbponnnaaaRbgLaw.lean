/- The walk through the law FnExactReadBig: it returns true. No condition beyond those typed. Written by mkrb16.py. -/
import Derived.Test.YtdgonpbponnnaaaLaw2
import Derived.Test.YtdgonpbponnnaaaRc16
namespace Go.Proofs.Ytdgonpbponnnaaa
open Go.RowKit
set_option linter.unusedVariables false
set_option maxRecDepth 100000
set_option linter.unusedSimpArgs false

set_option maxRecDepth 100000 in
set_option maxHeartbeats 8000000 in
theorem lawReadBig_in (s : ByteArray) (w : World) (hs : s.size ≤ 1048576) :
    Calls Try.prog 3 #[.string s] w fun e w' => e = .returned (.bool true) ∧ Below w.heap.size w w' := by
  have CS := hide (fun w => ReadBigS s w hs)
  have CI := hide (fun w => ReadBigI s w hs)
  generalize rbV s.data.toList = V at CS CI
  generalize rbB s.data.toList = b at CS CI
  have eb : (b != b) = false := by simp
  have hd0 : ¬ ((1048576 : Int) < (s.size : Int)) := by omega
  go_enter Try.func3, Try.ntmps3
  go_wp2_with fail
  refine (unhide CS _).mono ?_
  rintro e w1 ⟨ar, nr, cr, zs, rfl, hb1, ho1, ha1, hn1, l1⟩
  have HN := hide hn1
  have V0 := hide (Var.start (g := decide (V < 0)) (c := cr) 24 ho1 ha1.len)
  have z1 : w.heap.size ≤ w1.heap.size := hb1.size
  have nr4 : nr ≤ 40 := l1
  have nrm : nr ≤ maxLen := by unfold maxLen; omega
  have B0 := hide (hb1.alloc hb1.size (.cells #[.bool (decide (V < 0)), .slice ar nr cr] 24))
  clear hb1 ho1 ha1 hn1
  go_wp2_with fail
  refine (unhide CI _).mono ?_
  rintro e w2 ⟨a2, n2, c2, zs2, rfl, hb2, ho2, ha2, hn2, _⟩
  have ez : zs = zs2 := (unhide HN).same hn2
  subst ez
  have en : nr = n2 := by rw [← ha2.len, (unhide V0).len]
  subst en
  have s1 : w1.heap.size + 1 ≤ w2.heap.size := by have := hb2.size; simp at this; omega
  have VG := hide ((Var.start (g := decide (V < 0)) (c := c2) 24 ho2 ha2.len).low (lo' := w1.heap.size + 1) (by simp))
  replace V0 := hide (((unhide V0).later hb2).later ((Below.refl _ _).alloc (Nat.le_refl _) (.cells #[.bool (decide (V < 0)), .slice a2 nr c2] 24)))
  replace B0 := hide (below_on (below_on (unhide B0) hb2) ((Below.refl _ _).alloc (Nat.le_refl _) (.cells #[.bool (decide (V < 0)), .slice a2 nr c2] 24)))
  clear hb2 ho2 ha2 hn2
  have p0 := (unhide V0).c0
  have p1 := (unhide V0).c1
  go_wp2_with fail
  refine (eq_same _ a2 ar nr c2 cr zs _ (unhide VG).own.sl (unhide V0).own.sl (unhide VG).len nrm).mono ?_
  rintro e w3 ⟨rfl, hb3⟩
  clear p0 p1
  replace V0 := hide ((unhide V0).later hb3)
  replace VG := hide ((unhide VG).later hb3)
  replace B0 := hide (below_on (unhide B0) hb3)
  clear hb3
  generalize w1.heap.size = G0 at *
  generalize w2.heap.size = GG at *
  have p0 := (unhide VG).c0
  have p1 := (unhide VG).c1
  go_wp2_with fail
  refine (markB_own _ a2 nr c2 zs 1 (G0 + 1) GG w3 (unhide VG).own (unhide VG).len (by omega) (by omega) (by omega)).mono ?_
  rintro e w4 ⟨rfl, hbt, hmk⟩
  replace V0 := hide ((unhide V0).but hbt (by omega) (by omega))
  replace VG := hide ((unhide VG).mark hbt (by omega) hmk (marks_len _ _))
  replace B0 := hide (hbt.below (unhide B0) (by omega) (unhide B0).size)
  clear p0 p1 hbt hmk
  have p0 := (unhide VG).c0
  have p1 := (unhide VG).c1
  have hr0 : ¬ ((1 : Int) + (nr : Int) < 0) := by omega
  go_wp2_with fail
  refine (heldB_any _ a2 nr c2 1 w4 (unhide VG).own.sl (by omega) (by omega) (by omega)).mono ?_
  rintro e w5 ⟨rfl, hb5⟩
  replace V0 := hide ((unhide V0).later hb5)
  replace VG := hide ((unhide VG).later hb5)
  replace B0 := hide (below_on (unhide B0) hb5)
  clear p0 p1 hb5
  go_wp2_with fail
  refine (unhide CI _).mono ?_
  rintro e w6 ⟨ah, nh, ch, zh, rfl, hb6, ho6, ha6, hn6, _⟩
  have ez : zs = zh := (unhide HN).same hn6
  subst ez
  have en : nr = nh := by rw [← ha6.len, (unhide V0).len]
  subst en
  have VH := hide (Var.start (g := decide (V < 0)) (c := ch) 24 ho6 ha6.len)
  have AL : Hid (Below w6.heap.size w6 (w6.alloc (.cells #[.bool (decide (V < 0)), .slice ah nr ch] 24))) := hide ((Below.refl _ _).alloc (Nat.le_refl _) _)
  replace V0 := hide (((unhide V0).later hb6).later (unhide AL))
  replace VG := hide (((unhide VG).later hb6).later (unhide AL))
  replace B0 := hide (below_on (below_on (unhide B0) hb6) (unhide AL))
  clear hb6 ho6 ha6 hn6 AL
  have p0 := (unhide V0).c0
  have p1 := (unhide V0).c1
  go_wp2_with fail
  refine (eq_same _ ah ar nr ch cr zs _ (unhide VH).own.sl (unhide V0).own.sl (unhide VH).len nrm).mono ?_
  rintro e w7 ⟨rfl, hb7⟩
  clear p0 p1
  replace VG := hide ((unhide VG).later hb7)
  replace B0 := hide (below_on (unhide B0) hb7)
  clear hb7
  have p0 := (unhide VG).c0
  have p1 := (unhide VG).c1
  go_wp2_with fail
  refine (heldB_any _ a2 nr c2 1 w7 (unhide VG).own.sl (by omega) (by omega) (by omega)).mono ?_
  rintro e w8 ⟨rfl, hb8⟩
  replace B0 := hide (below_on (unhide B0) hb8)
  clear p0 p1 hb8
  go_wp2
  go_ret
  exact ⟨rfl, unhide B0⟩
set_option maxHeartbeats 2000000 in
theorem lawReadBig_walk (s : ByteArray) (w : World) (hm : s.size ≤ maxLen) :
    Calls Try.prog 3 #[.string s] w fun e w' => e = .returned (.bool true) ∧ Below w.heap.size w w' := by
  by_cases hbig : 1048576 < s.size
  · have hd : (1048576 : Int) < (s.size : Int) := by omega
    clear hm
    go_enter Try.func3, Try.ntmps3
    go_wp2
    go_ret
    exact ⟨rfl, Below.refl _ _⟩
  · exact lawReadBig_in s w (by omega)
end Go.Proofs.Ytdgonpbponnnaaa

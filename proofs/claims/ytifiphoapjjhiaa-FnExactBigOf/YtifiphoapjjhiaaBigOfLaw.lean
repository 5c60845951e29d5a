/- The walk through the law FnExactBigOf: it returns true. No condition beyond those typed. -/
import Derived.Test.YtifiphoapjjhiaaLaw2
import Derived.Test.YtifiphoapjjhiaaBigOfI
namespace Go.Proofs.Ytifiphoapjjhiaa
open Go.RowKit
set_option linter.unusedVariables false
set_option linter.unusedSimpArgs false

theorem nm_len {zs : List Int} {V : Int} (h : Nm zs V) (hV : V ≤ 9223372036854775808) : zs.length ≤ 4 := by
  by_cases hl : zs.length ≤ 4
  · exact hl
  · have h1 := top_le h.ok h.tr (by omega)
    have h2 := pow_mono (show 4 ≤ zs.length - 1 by omega)
    have h3 : (65536 : Int) ^ 4 = 18446744073709551616 := by decide
    rw [h.v] at h1
    omega

set_option maxRecDepth 100000 in
set_option maxHeartbeats 8000000 in
theorem lawBigOf_in (n : Int) (w : World) (h0 : -9223372036854775808 ≤ n) (h1 : n ≤ 9223372036854775807) :
    Calls Try.prog 5 #[.int .i64 n] w fun e w' => e = .returned (.bool true) ∧ Below w.heap.size w w' := by
  have CI : Hid (∀ w, Calls Try.prog 37 #[.int .i64 n] w (OutB w n)) := hide (fun w => bigOfI_any n w h0 h1)
  go_enter Try.func5, Try.ntmps5
  go_wp2_with fail
  refine (bigOfS_any n w h0 h1).mono ?_
  rintro e w1 ⟨ar, nr, cr, zs, rfl, hb1, ho1, ha1, hn1⟩
  have HN := hide hn1
  have V0 := hide (Var.start (g := decide (n < 0)) (c := cr) 25 ho1 ha1.len)
  have z1 : w.heap.size ≤ w1.heap.size := hb1.size
  have nr4 : nr ≤ 4 := by rw [← ha1.len]; exact nm_len hn1 (by omega)
  have nrm : nr ≤ maxLen := by unfold maxLen; omega
  have B0 := hide (hb1.alloc hb1.size (.cells #[.bool (decide (n < 0)), .slice ar nr cr] 25))
  clear hb1 ho1 ha1 hn1
  go_wp2_with fail
  refine (unhide CI _).mono ?_
  rintro e w2 ⟨a2, n2, c2, zs2, rfl, hb2, ho2, ha2, hn2⟩
  have ez : zs = zs2 := (unhide HN).same hn2
  subst ez
  have en : nr = n2 := by rw [← ha2.len, (unhide V0).len]
  subst en
  have s1 : w1.heap.size + 1 ≤ w2.heap.size := by have := hb2.size; simp at this; omega
  have VG := hide ((Var.start (g := decide (n < 0)) (c := c2) 25 ho2 ha2.len).low (lo' := w1.heap.size + 1) (by simp))
  replace V0 := hide (((unhide V0).later hb2).later ((Below.refl _ _).alloc (Nat.le_refl _) (.cells #[.bool (decide (n < 0)), .slice a2 nr c2] 25)))
  replace B0 := hide (below_on (below_on (unhide B0) hb2) ((Below.refl _ _).alloc (Nat.le_refl _) (.cells #[.bool (decide (n < 0)), .slice a2 nr c2] 25)))
  clear hb2 ho2 ha2 hn2
  have p0 := (unhide V0).c0
  have p1 := (unhide V0).c1
  go_wp2_with fail
  refine (eq_same _ a2 ar nr c2 cr zs _ (unhide VG).own.sl (unhide V0).own.sl (unhide VG).len nrm).mono ?_
  rintro e w3 ⟨rfl, hb3⟩
  clear p0 p1
  replace V0 := hide ((unhide V0).later hb3)
  replace VG := hide ((unhide VG).later hb3)
  replace B0 := hide (below_on (unhide B0) hb3)
  clear hb3
  generalize w1.heap.size = G0 at *
  generalize w2.heap.size = GG at *
  have p0 := (unhide VG).c0
  have p1 := (unhide VG).c1
  go_wp2_with fail
  refine (markB_own _ a2 nr c2 zs 1 (G0 + 1) GG w3 (unhide VG).own (unhide VG).len (by omega) (by omega) (by omega)).mono ?_
  rintro e w4 ⟨rfl, hbt, hmk⟩
  replace V0 := hide ((unhide V0).but hbt (by omega) (by omega))
  replace VG := hide ((unhide VG).mark hbt (by omega) hmk (marks_len _ _))
  replace B0 := hide (hbt.below (unhide B0) (by omega) (unhide B0).size)
  clear p0 p1 hbt hmk
  have p0 := (unhide VG).c0
  have p1 := (unhide VG).c1
  have hr0 : ¬ ((1 : Int) + (nr : Int) < 0) := by omega
  go_wp2_with fail
  refine (heldB_any _ a2 nr c2 1 w4 (unhide VG).own.sl (by omega) (by omega) (by omega)).mono ?_
  rintro e w5 ⟨rfl, hb5⟩
  replace V0 := hide ((unhide V0).later hb5)
  replace VG := hide ((unhide VG).later hb5)
  replace B0 := hide (below_on (unhide B0) hb5)
  clear p0 p1 hb5
  go_wp2_with fail
  refine (unhide CI _).mono ?_
  rintro e w6 ⟨ah, nh, ch, zh, rfl, hb6, ho6, ha6, hn6⟩
  have ez : zs = zh := (unhide HN).same hn6
  subst ez
  have en : nr = nh := by rw [← ha6.len, (unhide V0).len]
  subst en
  have VH := hide (Var.start (g := decide (n < 0)) (c := ch) 25 ho6 ha6.len)
  have AL : Hid (Below w6.heap.size w6 (w6.alloc (.cells #[.bool (decide (n < 0)), .slice ah nr ch] 25))) := hide ((Below.refl _ _).alloc (Nat.le_refl _) _)
  replace V0 := hide (((unhide V0).later hb6).later (unhide AL))
  replace VG := hide (((unhide VG).later hb6).later (unhide AL))
  replace B0 := hide (below_on (below_on (unhide B0) hb6) (unhide AL))
  clear hb6 ho6 ha6 hn6 AL
  have p0 := (unhide V0).c0
  have p1 := (unhide V0).c1
  go_wp2_with fail
  refine (eq_same _ ah ar nr ch cr zs _ (unhide VH).own.sl (unhide V0).own.sl (unhide VH).len nrm).mono ?_
  rintro e w7 ⟨rfl, hb7⟩
  clear p0 p1
  replace VG := hide ((unhide VG).later hb7)
  replace B0 := hide (below_on (unhide B0) hb7)
  clear hb7
  have p0 := (unhide VG).c0
  have p1 := (unhide VG).c1
  go_wp2_with fail
  refine (heldB_any _ a2 nr c2 1 w7 (unhide VG).own.sl (by omega) (by omega) (by omega)).mono ?_
  rintro e w8 ⟨rfl, hb8⟩
  replace B0 := hide (below_on (unhide B0) hb8)
  clear p0 p1 hb8
  go_wp2
  go_ret
  exact ⟨rfl, unhide B0⟩
theorem lawBigOf_walk (n : Int) (w : World) (h : (Lit.int .i64 n).wf = true) :
    Calls Try.prog 5 #[.int .i64 n] w fun e w' => e = .returned (.bool true) ∧ Below w.heap.size w w' := by
  simp [Lit.wf, IntKind.min, IntKind.max, IntKind.signed, IntKind.bits] at h
  exact lawBigOf_in n w (by omega) (by omega)
end Go.Proofs.Ytifiphoapjjhiaa

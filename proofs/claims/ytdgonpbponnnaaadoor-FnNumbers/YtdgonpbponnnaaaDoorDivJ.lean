/- Quotients of limbs and greatest common divisors: the specification's l1DivLimbs and l1Gcd. No condition beyond those typed. -/
import Derived.Test.YtdgonpbponnnaaaDoorDivH
namespace Go.Proofs.YtdgonpbponnnaaaDoor
open Go.RowKit
set_option linter.unusedVariables false
set_option maxRecDepth 100000
set_option linter.unusedSimpArgs false

set_option maxHeartbeats 4000000 in
theorem divS_any (a a' : Option Addr) (n m c c' : Nat) (xs ys : List Int) (w : World) (hx : Arg w a n c xs) (hy : Arg w a' m c' ys) (ox : okL xs) (tx : trim xs = xs) (oy : okL ys) (ty : trim ys = ys) (hm : 1 ≤ m) (h1 : n ≤ 900000) (h2 : m ≤ 900000) :
    Calls Tryd.prog 61 #[.slice a n c, .slice a' m c'] w (Out2 w (val xs / val ys) (val xs % val ys)) := by
  have HX := hide hx
  have HY := hide hy
  have HC := hide (fun w1 a n c (h : Arg w1 a n c xs) (k : Arg w1 a' m c' ys) => cmpS_any a a' n m c c' xs ys w1 h.sl k.sl h.len k.len (Nat.le_trans h.cap h.top) (Nat.le_trans k.cap k.top))
  have HV := hide (cmpL_val ox oy tx ty)
  clear hx hy
  by_cases hlt : cmpL xs ys < 0
  · have HD := hide (div_small (val_nonneg ox) ((unhide HV).1.1 hlt))
    go_enter Tryd.func61, Tryd.ntmps61
    go_wp2_with fail
    refine (cut_any a n c xs w (unhide HX) (by omega)).mono ?_
    rintro e w1 ⟨a2, n2, c2, rfl, hb1, ho1, ha1⟩
    rw [tx] at ho1 ha1
    have H1 := hide (And.intro hb1 (And.intro ho1 ha1))
    clear hb1 ho1 ha1
    go_wp2_with fail
    refine (unhide HC w1 a2 n2 c2 (unhide H1).2.2 ((unhide HY).later (unhide H1).1)).mono ?_
    rintro e w2 ⟨rfl, hb2⟩
    have HF : Hid (Below w.heap.size w w2 ∧ Own w.heap.size w2 a2 xs ∧ Arg w2 a2 n2 c2 xs) := hide ⟨below_on (unhide H1).1 hb2, (unhide H1).2.1.later hb2, (unhide H1).2.2.later hb2⟩
    clear hb2
    go_wp2
    go_ret2
    exact ⟨none, 0, 0, [], a2, n2, c2, xs, rfl, (unhide HF).1, .inl rfl, Arg.none _, by rw [(unhide HD).1]; exact Nm.zero, (unhide HF).2.1, (unhide HF).2.2, ⟨ox, tx, (unhide HD).2.symm⟩, .inl rfl⟩
  · have hle : val ys ≤ val xs := by
      rcases Int.lt_or_le (val xs) (val ys) with h | h
      · exact absurd ((unhide HV).1.2 h) hlt
      · exact h
    have HNM : Hid (m ≤ n) := hide (by have := len_of_val ox oy ty hle; rw [(unhide HX).len, (unhide HY).len] at this; exact this)
    clear hle
    obtain ⟨b, off, rfl, hcy⟩ := (unhide HY).sl.at (k := 0) (by rw [(unhide HY).len]; omega)
    rw [Nat.add_zero] at hcy
    by_cases hm1 : m = 1
    · subst hm1
      have hyb := okL_get oy 0
      have hpos := (top_pos oy ty (unhide HY).len (by omega)).1
      have HV1 := hide (val_one (unhide HY).len)
      have hpos' : 1 ≤ ys.getD 0 0 := hpos
      clear hpos
      generalize ys.getD 0 0 = y at *
      obtain ⟨hy0, hy1⟩ := hyb
      go_enter Tryd.func61, Tryd.ntmps61
      go_wp2_with fail
      refine (cut_any a n c xs w (unhide HX) (by omega)).mono ?_
      rintro e w0 ⟨a1, n1, c1, rfl, hb0, ho0, ha0⟩
      rw [tx] at ho0 ha0
      obtain rfl : n1 = n := by have := ha0.len; have := (unhide HX).len; omega
      have H0 := hide (And.intro hb0 ha0)
      have hcy0 := cell_later hb0 hcy
      clear hb0 ho0 ha0 hcy
      go_wp2_with fail
      refine (unhide HC w0 a1 n1 c1 (unhide H0).2 ((unhide HY).later (unhide H0).1)).mono ?_
      rintro e w1 ⟨rfl, hb1⟩
      have HB1 := hide (below_on (unhide H0).1 hb1)
      have HA1 := hide ((unhide H0).2.later hb1)
      have hcy1 := cell_later hb1 hcy0
      clear hb1 hcy0
      go_wp2_with fail
      refine (shortS_any a1 n1 c1 xs y w1 (unhide HA1) ox (by omega) (by omega) (by omega)).mono ?_
      rintro e w2 ⟨a2, n2, c2, zs, a3, n3, c3, rs, rfl, hb2, q⟩
      have HF := hide (And.intro (below_on (unhide HB1) hb2) q)
      clear hb2 q hcy1
      go_wp2
      go_ret2
      obtain ⟨f0, f1, f2, f3, f4, f5, f6, f7⟩ := unhide HF
      exact ⟨a2, n2, c2, zs, a3, n3, c3, rs, rfl, f0, f1.mono (unhide HB1).size, f2, by rw [unhide HV1]; exact f3, f4.mono (unhide HB1).size, f5, by rw [unhide HV1]; exact f6, f7⟩
    · obtain ⟨e0, rfl⟩ : ∃ e0, n = m + e0 := ⟨n - m, by have := unhide HNM; omega⟩
      exact longS_any b off a m e0 c c' xs ys w (unhide HX) (unhide HY) ox tx oy ty (by omega) (by omega) hlt

end Go.Proofs.YtdgonpbponnnaaaDoor

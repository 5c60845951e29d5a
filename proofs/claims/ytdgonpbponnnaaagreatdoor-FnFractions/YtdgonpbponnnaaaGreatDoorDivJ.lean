/- Quotients of limbs and greatest common divisors: the specification's l1DivLimbs and l1Gcd. No condition beyond those typed. -/
import Derived.Test.YtdgonpbponnnaaaGreatDoorDivH
namespace Go.Proofs.YtdgonpbponnnaaaGreatDoor
open Go.RowKit
set_option linter.unusedVariables false
set_option maxRecDepth 100000
set_option linter.unusedSimpArgs false

set_option maxHeartbeats 4000000 in
theorem divS_any (a a' : Option Addr) (n m c c' : Nat) (xs ys : List Int) (w : World) (hx : Arg w a n c xs) (hy : Arg w a' m c' ys) (ox : okL xs) (tx : trim xs = xs) (oy : okL ys) (ty : trim ys = ys) (hm : 1 ≤ m) (h1 : n ≤ 900000) (h2 : m ≤ 900000) :
    Calls Tryz.prog 79 #[.slice a n c, .slice a' m c'] w (Out2 w (val xs / val ys) (val xs % val ys)) := by
  have HX := hide hx
  have HY := hide hy
  have HC := hide (fun w1 a n c (h : Arg w1 a n c xs) (k : Arg w1 a' m c' ys) => cmpS_any a a' n m c c' xs ys w1 h.sl k.sl h.len k.len (Nat.le_trans h.cap h.top) (Nat.le_trans k.cap k.top))
  have HV := hide (cmpL_val ox oy tx ty)
  clear hx hy
  by_cases hlt : cmpL xs ys < 0
  · have HD := hide (div_small (val_nonneg ox) ((unhide HV).1.1 hlt))
    go_enter Tryz.func79, Tryz.ntmps79
    go_wp2_with fail
    refine (cut_any a n c xs w (unhide HX) (by omega)).mono ?_
    rintro e w1 ⟨a2, n2, c2, rfl, hb1, ho1, ha1⟩
    rw [tx] at ho1 ha1
    have H1 := hide (And.intro hb1 (And.intro ho1 ha1))
    clear hb1 ho1 ha1
    go_wp2_with fail
    refine (unhide HC w1 a2 n2 c2 (unhide H1).2.2 ((unhide HY).later (unhide H1).1)).mono ?_
    rintro e w2 ⟨rfl, hb2⟩
    have HF : Hid (Below w.heap.size w w2 ∧ Own w.heap.size w2 a2 xs ∧ Arg w2 a2 n2 c2 xs) := hide ⟨below_on (unhide H1).1 hb2, (unhide H1).2.1.later hb2, (unhide H1).2.2.later hb2⟩
    clear hb2
    go_wp2
    go_ret2
    exact ⟨none, 0, 0, [], a2, n2, c2, xs, rfl, (unhide HF).1, .inl rfl, Arg.none _, by rw [(unhide HD).1]; exact Nm.zero, (unhide HF).2.1, (unhide HF).2.2, ⟨ox, tx, (unhide HD).2.symm⟩, .inl rfl⟩
  · have hle : val ys ≤ val xs := by
      rcases Int.lt_or_le (val xs) (val ys) with h | h
      · exact absurd ((unhide HV).1.2 h) hlt
      · exact h
    have HNM : Hid (m ≤ n) := hide (by have := len_of_val ox oy ty hle; rw [(unhide HX).len, (unhide HY).len] at this; exact this)
    clear hle
    obtain ⟨b, off, rfl, hcy⟩ := (unhide HY).sl.at (k := 0) (by rw [(unhide HY).len]; omega)
    rw [Nat.add_zero] at hcy
    by_cases hm1 : m = 1
    · subst hm1
      have hyb := okL_get oy 0
      have hpos := (top_pos oy ty (unhide HY).len (by omega)).1
      have HV1 := hide (val_one (unhide HY).len)
      have hpos' : 1 ≤ ys.getD 0 0 := hpos
      clear hpos
      generalize ys.getD 0 0 = y at *
      obtain ⟨hy0, hy1⟩ := hyb
      go_enter Tryz.func79, Tryz.ntmps79
      go_wp2_with fail
      refine (cut_any a n c xs w (unhide HX) (by omega)).mono ?_
      rintro e w0 ⟨a1, n1, c1, rfl, hb0, ho0, ha0⟩
      rw [tx] at ho0 ha0
      obtain rfl : n1 = n := by have := ha0.len; have := (unhide HX).len; omega
      have H0 := hide (And.intro hb0 ha0)
      have hcy0 := cell_later hb0 hcy
      clear hb0 ho0 ha0 hcy
      go_wp2_with fail
      refine (unhide HC w0 a1 n1 c1 (unhide H0).2 ((unhide HY).later (unhide H0).1)).mono ?_
      rintro e w1 ⟨rfl, hb1⟩
      have HB1 := hide (below_on (unhide H0).1 hb1)
      have HA1 := hide ((unhide H0).2.later hb1)
      have hcy1 := cell_later hb1 hcy0
      clear hb1 hcy0
      go_wp2_with fail
      refine (shortS_any a1 n1 c1 xs y w1 (unhide HA1) ox (by omega) (by omega) (by omega)).mono ?_
      rintro e w2 ⟨a2, n2, c2, zs, a3, n3, c3, rs, rfl, hb2, q⟩
      have HF := hide (And.intro (below_on (unhide HB1) hb2) q)
      clear hb2 q hcy1
      go_wp2
      go_ret2
      obtain ⟨f0, f1, f2, f3, f4, f5, f6, f7⟩ := unhide HF
      exact ⟨a2, n2, c2, zs, a3, n3, c3, rs, rfl, f0, f1.mono (unhide HB1).size, f2, by rw [unhide HV1]; exact f3, f4.mono (unhide HB1).size, f5, by rw [unhide HV1]; exact f6, f7⟩
    · obtain ⟨e0, rfl⟩ : ∃ e0, n = m + e0 := ⟨n - m, by have := unhide HNM; omega⟩
      exact longS_any b off a m e0 c c' xs ys w (unhide HX) (unhide HY) ox tx oy ty (by omega) (by omega) hlt

set_option maxHeartbeats 4000000 in
theorem gcdS_any (a a' : Option Addr) (n m c c' : Nat) (xs ys : List Int) (w : World) (hx : Arg w a n c xs) (hy : Arg w a' m c' ys) (ox : okL xs) (tx : trim xs = xs) (oy : okL ys) (ty : trim ys = ys) (h1 : n ≤ 900000) (h2 : m ≤ 900000) :
    Calls Tryz.prog 48 #[.slice a n c, .slice a' m c'] w (Out w (Nat.gcd (val xs).toNat (val ys).toNat)) := by
  have HX := hide hx
  have HY := hide hy
  clear hx hy
  go_enter Tryz.func48, Tryz.ntmps48
  go_wp2
  go_loopw [0, 1] (fun av bv wr => ∃ (a1 a2 : Option Addr) (n1 n2 c1 c2 : Nat) (us vs : List Int), av = .slice a1 n1 c1 ∧ bv = .slice a2 n2 c2 ∧ n1 ≤ 900000 ∧ n2 ≤ 900000 ∧ Hid (Arg wr a1 n1 c1 us ∧ Arg wr a2 n2 c2 vs) ∧ Hid (okL us ∧ trim us = us ∧ okL vs ∧ trim vs = vs) ∧
      Hid (Nat.gcd (val us).toNat (val vs).toNat = Nat.gcd (val xs).toNat (val ys).toNat) ∧ Hid (Below w.heap.size w wr)) (fun _ bv wr => (val (rd wr bv)).toNat)
  case atStart => exact ⟨a, a', n, m, c, c', xs, ys, rfl, rfl, h1, h2, hide ⟨unhide HX, unhide HY⟩, hide ⟨ox, tx, oy, ty⟩, hide rfl, hide (Below.refl _ _)⟩
  case round =>
    obtain ⟨a1, a2, n1, n2, c1, c2, us, vs, rfl, rfl, hn1, hn2, HA, HO, HG, HB⟩ := hrel
    by_cases h0 : n2 = 0
    · subst h0
      have ev : vs = [] := List.length_eq_zero_iff.1 (unhide HA).2.len
      subst ev
      have hd : decide ((0 : Int) < 0) = false := by simp
      go_wp2_with fail
      refine (cut_any a1 n1 c1 us wr (unhide HA).1 (by omega)).mono ?_
      rintro e w2 ⟨a3, n3, c3, rfl, hb2, ho2, ha2⟩
      rw [(unhide HO).2.1] at ho2 ha2
      have HF : Hid (Below w.heap.size w w2 ∧ Own w.heap.size w2 a3 us ∧ Arg w2 a3 n3 c3 us) := hide ⟨below_on (unhide HB) hb2, ho2.mono (unhide HB).size, ha2⟩
      clear hb2 ho2 ha2
      go_wp2
      go_ret
      refine ⟨a3, n3, c3, us, rfl, (unhide HF).1, (unhide HF).2.1, (unhide HF).2.2, (unhide HO).1, (unhide HO).2.1, ?_⟩
      rw [← unhide HG]
      simp only [val]
      have := val_nonneg (unhide HO).1
      rw [show (0 : Int).toNat = 0 from rfl, Nat.gcd_zero_right]
      omega
    · have hd : decide ((0 : Int) < (n2 : Int)) = true := by rw [decide_eq_true_eq]; omega
      go_wp2_with fail
      refine (divS_any a1 a2 n1 n2 c1 c2 us vs wr (unhide HA).1 (unhide HA).2 (unhide HO).1 (unhide HO).2.1 (unhide HO).2.2.1 (unhide HO).2.2.2 (by omega) hn1 hn2).mono ?_
      rintro e w2 ⟨a3, n3, c3, zs, a4, n4, c4, rs, rfl, hb2, _, _, _, ho4, ha4, hm4, _⟩
      have hvp : 0 < val vs := by
        have := val_nonneg (unhide HO).2.2.1
        rcases Int.lt_or_le 0 (val vs) with h | h
        · exact h
        · have e := (val_zero_iff (unhide HO).2.2.1 (unhide HO).2.2.2).1 (by omega)
          have := (unhide HA).2.len
          rw [e] at this; simp at this; omega
      have hr : val us % val vs < val vs := Int.emod_lt_of_pos _ hvp
      have hr0 : 0 ≤ val us % val vs := Int.emod_nonneg _ (by omega)
      have hl4 : n4 ≤ n2 := by
        rw [← ha4.len]
        exact hm4.le (unhide HO).2.2.1 (unhide HA).2.len (by omega)
      have H4 := hide (And.intro (And.intro ((unhide HA).2.later hb2) ha4) (And.intro hm4 (And.intro hvp (And.intro hr hr0))))
      have HB2 := hide (below_on (unhide HB) hb2)
      clear hb2 ho4 ha4 hm4 hvp hr hr0
      go_wp2
      go_roundw
      case rel =>
        refine ⟨a2, a4, n2, n4, c2, c4, vs, rs, rfl, rfl, hn2, by omega, hide (unhide H4).1, hide ⟨(unhide HO).2.2.1, (unhide HO).2.2.2, (unhide H4).2.1.ok, (unhide H4).2.1.tr⟩, hide ?_, HB2⟩
        have u0 := val_nonneg (unhide HO).1
        have v0 := (unhide H4).2.2.1
        have e := gcd_step (val us).toNat (val vs).toNat (by omega)
        rw [← unhide HG, e, (unhide H4).2.1.v, Int.toNat_emod (by omega) (by omega)]
      case measure =>
        rw [rd_arg (unhide H4).1.2, rd_arg (unhide HA).2, (unhide H4).2.1.v]
        have := (unhide H4).2.2
        omega
end Go.Proofs.YtdgonpbponnnaaaGreatDoor

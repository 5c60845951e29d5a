/- Products by halves: the specification's l1Halves answers the product. No condition beyond those typed. Written by mkhalvs.py. -/
import Derived.Test.YtifiphoapjjhiaaLowS
namespace Go.Proofs.Ytifiphoapjjhiaa
open Go.RowKit
set_option linter.unusedVariables false
set_option linter.unusedSimpArgs false

def HalvSaidS (k : Nat) : Prop := ∀ (a a' : Option Addr) (n m c c' : Nat) (xs ys : List Int) (X Y : Int) (w : World), At w a n c xs X → At w a' m c' ys Y → X + Y ≤ k → n ≤ 200000 → m ≤ 200000 →
  Calls Try.prog 55 #[.slice a n c, .slice a' m c'] w (Out w (X * Y))

set_option maxHeartbeats 4000000 in
theorem halvS_small (a a' : Option Addr) (n m c c' : Nat) (xs ys : List Int) (X Y : Int) (w : World) (hx : At w a n c xs X) (hy : At w a' m c' ys Y) (h1 : n ≤ 2) (h2 : m ≤ 2) :
    Calls Try.prog 55 #[.slice a n c, .slice a' m c'] w (Out w (X * Y)) := by
  have HX := hide hx
  have HY := hide hy
  clear hx hy
  have CM : Hid (Calls Try.prog 79 #[.slice a n c, .slice a' m c'] w (Out w (X * Y))) := hide (by
    have := mulS_any a a' n m c c' xs ys w (unhide HX).arg (unhide HY).arg (unhide HX).nm.ok (unhide HY).nm.ok (by omega) (by omega)
    rw [(unhide HX).nm.v, (unhide HY).nm.v] at this
    exact this)
  by_cases hnm : n < m
  · have e2 : (m : Int) ≤ 2 := by omega
    go_enter Try.func55, Try.ntmps55
    go_wp2_with fail
    refine (unhide CM).mono ?_
    rintro e w1 ⟨a1, n1, c1, zs, rfl, hb1, ho1, ha1, hn1⟩
    have HF := hide (And.intro hb1 (And.intro ho1 (And.intro ha1 hn1)))
    clear hb1 ho1 ha1 hn1 CM
    go_wp2_with fail
    go_ret
    exact ⟨a1, n1, c1, zs, rfl, (unhide HF).1, (unhide HF).2.1, (unhide HF).2.2.1, (unhide HF).2.2.2⟩
  · have e2 : (n : Int) ≤ 2 := by omega
    go_enter Try.func55, Try.ntmps55
    go_wp2_with fail
    refine (unhide CM).mono ?_
    rintro e w1 ⟨a1, n1, c1, zs, rfl, hb1, ho1, ha1, hn1⟩
    have HF := hide (And.intro hb1 (And.intro ho1 (And.intro ha1 hn1)))
    clear hb1 ho1 ha1 hn1 CM
    go_wp2_with fail
    go_ret
    exact ⟨a1, n1, c1, zs, rfl, (unhide HF).1, (unhide HF).2.1, (unhide HF).2.2.1, (unhide HF).2.2.2⟩

set_option maxRecDepth 100000 in
set_option maxHeartbeats 8000000 in
theorem halvS_step_lt (k : Nat) (IH : Hid (HalvSaidS k)) (a a' : Option Addr) (n m c c' h : Nat) (xs ys : List Int) (X Y : Int) (w : World) (hx : At w a n c xs X) (hy : At w a' m c' ys Y) (hk : X + Y ≤ k + 1) (h1 : n ≤ 200000) (h2 : m ≤ 200000) (hnm : n < m) (hN : 3 ≤ m) (hh : ((m : Nat) : Int) / 2 = (h : Int)) :
    Calls Try.prog 55 #[.slice a n c, .slice a' m c'] w (Out w (X * Y)) := by
  have HX := hide hx
  have HY := hide hy
  have hh1 : 1 ≤ h := by omega
  have hh2 : h ≤ 100000 := by omega
  obtain ⟨L, HLe⟩ : ∃ L, Hid (val (xs.take h) = L) := ⟨_, hide rfl⟩
  obtain ⟨H, HHe⟩ : ∃ H, Hid (val (xs.drop h) = H) := ⟨_, hide rfl⟩
  obtain ⟨L', HLe'⟩ : ∃ L', Hid (val (ys.take h) = L') := ⟨_, hide rfl⟩
  obtain ⟨H', HHe'⟩ : ∃ H', Hid (val (ys.drop h) = H') := ⟨_, hide rfl⟩
  have PX : Hid (X = L + 65536 ^ h * H) := hide (by rw [← unhide HLe, ← unhide HHe, ← part_val, hx.nm.v])
  have PY : Hid (Y = L' + 65536 ^ h * H') := hide (by rw [← unhide HLe', ← unhide HHe', ← part_val, hy.nm.v])
  have L0 : Hid (0 ≤ L) := hide (by rw [← unhide HLe]; exact val_nonneg (okL_take hx.nm.ok h))
  have H0 : Hid (0 ≤ H) := hide (by rw [← unhide HHe]; exact val_nonneg (okL_drop hx.nm.ok h))
  have L0' : Hid (0 ≤ L') := hide (by rw [← unhide HLe']; exact val_nonneg (okL_take hy.nm.ok h))
  have H0' : Hid (0 ≤ H') := hide (by rw [← unhide HHe']; exact val_nonneg (okL_drop hy.nm.ok h))
  have HP : Hid ((65536 : Int) ≤ 65536 ^ h) := hide (by have := pow_mono hh1; simpa using this)
  have HM1 : Hid (65536 * H ≤ 65536 ^ h * H) := hide (Int.mul_le_mul_of_nonneg_right (unhide HP) (unhide H0))
  have HM2 : Hid (65536 * H' ≤ 65536 ^ h * H') := hide (Int.mul_le_mul_of_nonneg_right (unhide HP) (unhide H0'))
  have HT : Hid (0 < H + H') := hide (by
    have nx := (val_zero_iff (okL_drop hx.nm.ok h) (trim_drop hx.nm.tr h))
    have ny := (val_zero_iff (okL_drop hy.nm.ok h) (trim_drop hy.nm.tr h))
    rw [unhide HHe] at nx
    rw [unhide HHe'] at ny
    have hp := unhide H0
    have hp' := unhide H0'
    by_cases hz : H = 0
    · by_cases hz' : H' = 0
      · have e1 := congrArg List.length (nx.1 hz)
        have e2 := congrArg List.length (ny.1 hz')
        rw [List.length_drop, List.length_nil, hx.arg.len] at e1
        rw [List.length_drop, List.length_nil, hy.arg.len] at e2
        omega
      · omega
    · omega)
  have D1 : Hid (L + L' ≤ k) := hide (by have := unhide PX; have := unhide PY; have := unhide HM1; have := unhide HM2; have := unhide HT; have := unhide H0; have := unhide H0'; omega)
  have D2 : Hid (H + H' ≤ k) := hide (by have := unhide PX; have := unhide PY; have := unhide HM1; have := unhide HM2; have := unhide HT; have := unhide L0; have := unhide L0'; have := unhide H0; have := unhide H0'; omega)
  have D3 : Hid ((L + H) + (L' + H') ≤ k) := hide (by have := unhide PX; have := unhide PY; have := unhide HM1; have := unhide HM2; have := unhide HT; have := unhide H0; have := unhide H0'; omega)
  have X1 : Hid (L ≤ X ∧ H ≤ X ∧ L + H ≤ X) := hide (by have := unhide PX; have := unhide HM1; have := unhide H0; have := unhide L0; omega)
  have Y1 : Hid (L' ≤ Y ∧ H' ≤ Y ∧ L' + H' ≤ Y) := hide (by have := unhide PY; have := unhide HM2; have := unhide H0'; have := unhide L0'; omega)
  have TX := hide hx.nm
  have TY := hide hy.nm
  clear hx hy hk
  have e2 : ¬ (m : Int) ≤ 2 := by omega
  have NL : Hid (Nm (trim (xs.take h)) L) := hide (by rw [← unhide HLe]; exact Nm.trimmed (okL_take (unhide TX).ok h))
  have NH : Hid (Nm (xs.drop h) H) := hide ⟨okL_drop (unhide TX).ok h, trim_drop (unhide TX).tr h, unhide HHe⟩
  have NL' : Hid (Nm (trim (ys.take h)) L') := hide (by rw [← unhide HLe']; exact Nm.trimmed (okL_take (unhide TY).ok h))
  have NH' : Hid (Nm (ys.drop h) H') := hide ⟨okL_drop (unhide TY).ok h, trim_drop (unhide TY).tr h, unhide HHe'⟩
  go_enter Try.func55, Try.ntmps55
  go_wp2_with fail
  refine (lowS_any a n c h xs w (unhide HX).arg (by omega) (by omega)).mono ?_
  rintro e w1 ⟨aAL, nAL, cAL, rfl, hb, g⟩
  have AL : Hid (At w1 aAL nAL cAL _ L) := hide ⟨g, unhide NL⟩
  have bAL : nAL ≤ 200000 := Nat.le_trans ((unhide AL).le (unhide HX) (unhide X1).1) h1
  replace HX := hide ((unhide HX).later hb)
  replace HY := hide ((unhide HY).later hb)
  have HB := hide hb
  clear hb g
  go_wp2_with fail
  refine (lowS_any a' m c' h ys w1 (unhide HY).arg (by omega) (by omega)).mono ?_
  rintro e w2 ⟨aBL, nBL, cBL, rfl, hb, g⟩
  have BL : Hid (At w2 aBL nBL cBL _ L') := hide ⟨g, unhide NL'⟩
  have bBL : nBL ≤ 200000 := Nat.le_trans ((unhide BL).le (unhide HY) (unhide Y1).1) h2
  replace HX := hide ((unhide HX).later hb)
  replace HY := hide ((unhide HY).later hb)
  replace AL := hide ((unhide AL).later hb)
  replace HB := hide (below_on (unhide HB) hb)
  clear hb g
  go_wp2_with fail
  refine (unhide IH _ _ _ _ _ _ _ _ _ _ w2 (unhide AL) (unhide BL) (unhide D1) bAL bBL).mono ?_
  rintro e w3 ⟨aLO, nLO, cLO, zLO, rfl, hb, ho, ha, hn⟩
  have LO : Hid (At w3 aLO nLO cLO zLO (L * L')) := hide ⟨ha, hn⟩
  replace HX := hide ((unhide HX).later hb)
  replace HY := hide ((unhide HY).later hb)
  replace AL := hide ((unhide AL).later hb)
  replace BL := hide ((unhide BL).later hb)
  replace HB := hide (below_on (unhide HB) hb)
  clear hb ho ha hn
  have bLO : nLO ≤ 400000 := by have := len_mul (unhide AL) (unhide BL) (unhide LO); omega
  go_wp2_with fail
  refine (highS_any a n c h xs w3 (unhide HX).arg (unhide TX).tr (by omega) (by omega)).mono ?_
  rintro e w4 ⟨aAH, nAH, cAH, rfl, hb, g⟩
  have AH : Hid (At w4 aAH nAH cAH _ H) := hide ⟨g, unhide NH⟩
  have bAH : nAH ≤ 200000 := Nat.le_trans ((unhide AH).le (unhide HX) (unhide X1).2.1) h1
  replace HX := hide ((unhide HX).later hb)
  replace HY := hide ((unhide HY).later hb)
  replace LO := hide ((unhide LO).later hb)
  replace HB := hide (below_on (unhide HB) hb)
  clear hb g
  go_wp2_with fail
  refine (highS_any a' m c' h ys w4 (unhide HY).arg (unhide TY).tr (by omega) (by omega)).mono ?_
  rintro e w5 ⟨aBH, nBH, cBH, rfl, hb, g⟩
  have BH : Hid (At w5 aBH nBH cBH _ H') := hide ⟨g, unhide NH'⟩
  have bBH : nBH ≤ 200000 := Nat.le_trans ((unhide BH).le (unhide HY) (unhide Y1).2.1) h2
  replace HX := hide ((unhide HX).later hb)
  replace HY := hide ((unhide HY).later hb)
  replace LO := hide ((unhide LO).later hb)
  replace AH := hide ((unhide AH).later hb)
  replace HB := hide (below_on (unhide HB) hb)
  clear hb g
  go_wp2_with fail
  refine (unhide IH _ _ _ _ _ _ _ _ _ _ w5 (unhide AH) (unhide BH) (unhide D2) bAH bBH).mono ?_
  rintro e w6 ⟨aHI, nHI, cHI, zHI, rfl, hb, ho, ha, hn⟩
  have HI : Hid (At w6 aHI nHI cHI zHI (H * H')) := hide ⟨ha, hn⟩
  replace HX := hide ((unhide HX).later hb)
  replace HY := hide ((unhide HY).later hb)
  replace LO := hide ((unhide LO).later hb)
  replace AH := hide ((unhide AH).later hb)
  replace BH := hide ((unhide BH).later hb)
  replace HB := hide (below_on (unhide HB) hb)
  clear hb ho ha hn
  have bHI : nHI ≤ 400000 := by have := len_mul (unhide AH) (unhide BH) (unhide HI); omega
  go_wp2_with fail
  refine (lowS_any a n c h xs w6 (unhide HX).arg (by omega) (by omega)).mono ?_
  rintro e w7 ⟨aCL, nCL, cCL, rfl, hb, g⟩
  have CL : Hid (At w7 aCL nCL cCL _ L) := hide ⟨g, unhide NL⟩
  have bCL : nCL ≤ 200000 := Nat.le_trans ((unhide CL).le (unhide HX) (unhide X1).1) h1
  replace HX := hide ((unhide HX).later hb)
  replace HY := hide ((unhide HY).later hb)
  replace LO := hide ((unhide LO).later hb)
  replace HI := hide ((unhide HI).later hb)
  replace HB := hide (below_on (unhide HB) hb)
  clear hb g
  go_wp2_with fail
  refine (highS_any a n c h xs w7 (unhide HX).arg (unhide TX).tr (by omega) (by omega)).mono ?_
  rintro e w8 ⟨aCH, nCH, cCH, rfl, hb, g⟩
  have CH : Hid (At w8 aCH nCH cCH _ H) := hide ⟨g, unhide NH⟩
  have bCH : nCH ≤ 200000 := Nat.le_trans ((unhide CH).le (unhide HX) (unhide X1).2.1) h1
  replace HX := hide ((unhide HX).later hb)
  replace HY := hide ((unhide HY).later hb)
  replace LO := hide ((unhide LO).later hb)
  replace HI := hide ((unhide HI).later hb)
  replace CL := hide ((unhide CL).later hb)
  replace HB := hide (below_on (unhide HB) hb)
  clear hb g
  have CSA : Hid (Calls Try.prog 78 #[.slice aCL nCL cCL, .slice aCH nCH cCH] w8 (Out w8 (L + H))) := hide (by have := addT_any aCL aCH nCL nCH cCL cCH _ _ w8 (unhide CL).arg (unhide CH).arg (unhide CL).nm.ok (unhide CH).nm.ok (unhide CL).nm.tr (unhide CH).nm.tr (by omega) (by omega); rw [(unhide CL).nm.v, (unhide CH).nm.v] at this; exact this)
  go_wp2_with fail
  refine (unhide CSA).mono ?_
  rintro e w9 ⟨aSA, nSA, cSA, zSA, rfl, hb, ho, ha, hn⟩
  have SA : Hid (At w9 aSA nSA cSA zSA (L + H)) := hide ⟨ha, hn⟩
  clear CSA
  replace HX := hide ((unhide HX).later hb)
  replace HY := hide ((unhide HY).later hb)
  replace LO := hide ((unhide LO).later hb)
  replace HI := hide ((unhide HI).later hb)
  replace CL := hide ((unhide CL).later hb)
  replace CH := hide ((unhide CH).later hb)
  replace HB := hide (below_on (unhide HB) hb)
  clear hb ho ha hn
  go_wp2_with fail
  refine (lowS_any a' m c' h ys w9 (unhide HY).arg (by omega) (by omega)).mono ?_
  rintro e w10 ⟨aDL, nDL, cDL, rfl, hb, g⟩
  have DL : Hid (At w10 aDL nDL cDL _ L') := hide ⟨g, unhide NL'⟩
  have bDL : nDL ≤ 200000 := Nat.le_trans ((unhide DL).le (unhide HY) (unhide Y1).1) h2
  replace HX := hide ((unhide HX).later hb)
  replace HY := hide ((unhide HY).later hb)
  replace LO := hide ((unhide LO).later hb)
  replace HI := hide ((unhide HI).later hb)
  replace SA := hide ((unhide SA).later hb)
  replace HB := hide (below_on (unhide HB) hb)
  clear hb g
  go_wp2_with fail
  refine (highS_any a' m c' h ys w10 (unhide HY).arg (unhide TY).tr (by omega) (by omega)).mono ?_
  rintro e w11 ⟨aDH, nDH, cDH, rfl, hb, g⟩
  have DH : Hid (At w11 aDH nDH cDH _ H') := hide ⟨g, unhide NH'⟩
  have bDH : nDH ≤ 200000 := Nat.le_trans ((unhide DH).le (unhide HY) (unhide Y1).2.1) h2
  replace HX := hide ((unhide HX).later hb)
  replace HY := hide ((unhide HY).later hb)
  replace LO := hide ((unhide LO).later hb)
  replace HI := hide ((unhide HI).later hb)
  replace SA := hide ((unhide SA).later hb)
  replace DL := hide ((unhide DL).later hb)
  replace HB := hide (below_on (unhide HB) hb)
  clear hb g
  have CSB : Hid (Calls Try.prog 78 #[.slice aDL nDL cDL, .slice aDH nDH cDH] w11 (Out w11 (L' + H'))) := hide (by have := addT_any aDL aDH nDL nDH cDL cDH _ _ w11 (unhide DL).arg (unhide DH).arg (unhide DL).nm.ok (unhide DH).nm.ok (unhide DL).nm.tr (unhide DH).nm.tr (by omega) (by omega); rw [(unhide DL).nm.v, (unhide DH).nm.v] at this; exact this)
  go_wp2_with fail
  refine (unhide CSB).mono ?_
  rintro e w12 ⟨aSB, nSB, cSB, zSB, rfl, hb, ho, ha, hn⟩
  have SB : Hid (At w12 aSB nSB cSB zSB (L' + H')) := hide ⟨ha, hn⟩
  clear CSB
  replace HX := hide ((unhide HX).later hb)
  replace HY := hide ((unhide HY).later hb)
  replace LO := hide ((unhide LO).later hb)
  replace HI := hide ((unhide HI).later hb)
  replace SA := hide ((unhide SA).later hb)
  replace DL := hide ((unhide DL).later hb)
  replace DH := hide ((unhide DH).later hb)
  replace HB := hide (below_on (unhide HB) hb)
  clear hb ho ha hn
  have bSA : nSA ≤ 200000 := Nat.le_trans ((unhide SA).le (unhide HX) (unhide X1).2.2) h1
  have bSB : nSB ≤ 200000 := Nat.le_trans ((unhide SB).le (unhide HY) (unhide Y1).2.2) h2
  go_wp2_with fail
  refine (unhide IH _ _ _ _ _ _ _ _ _ _ w12 (unhide SA) (unhide SB) (unhide D3) bSA bSB).mono ?_
  rintro e w13 ⟨aBO, nBO, cBO, zBO, rfl, hb, ho, ha, hn⟩
  have BO : Hid (At w13 aBO nBO cBO zBO ((L + H) * (L' + H'))) := hide ⟨ha, hn⟩
  replace HX := hide ((unhide HX).later hb)
  replace HY := hide ((unhide HY).later hb)
  replace LO := hide ((unhide LO).later hb)
  replace HI := hide ((unhide HI).later hb)
  replace SA := hide ((unhide SA).later hb)
  replace SB := hide ((unhide SB).later hb)
  replace HB := hide (below_on (unhide HB) hb)
  clear hb ho ha hn
  have bBO : nBO ≤ 400000 := by have := len_mul (unhide SA) (unhide SB) (unhide BO); omega
  have ML := hide (mid_le (unhide L0) (unhide H0) (unhide L0') (unhide H0'))
  have LL0 : Hid (0 ≤ L * L') := hide (Int.mul_nonneg (unhide L0) (unhide L0'))
  have HH0 : Hid (0 ≤ H * H') := hide (Int.mul_nonneg (unhide H0) (unhide H0'))
  have CS1 : Hid (Calls Try.prog 90 #[.slice aBO nBO cBO, .slice aLO nLO cLO] w13 (Out w13 ((L + H) * (L' + H') - L * L'))) := hide (by have := subS_any aBO aLO nBO nLO cBO cLO _ _ w13 (unhide BO).arg (unhide LO).arg (unhide BO).nm.ok (unhide LO).nm.ok (by omega) ((unhide LO).le (unhide BO) (unhide ML).1) (by rw [(unhide BO).nm.v, (unhide LO).nm.v]; exact (unhide ML).1); rw [(unhide BO).nm.v, (unhide LO).nm.v] at this; exact this)
  go_wp2_with fail
  refine (unhide CS1).mono ?_
  rintro e w14 ⟨aS1, nS1, cS1, zS1, rfl, hb, ho, ha, hn⟩
  have S1 : Hid (At w14 aS1 nS1 cS1 zS1 ((L + H) * (L' + H') - L * L')) := hide ⟨ha, hn⟩
  clear CS1
  replace LO := hide ((unhide LO).later hb)
  replace HI := hide ((unhide HI).later hb)
  replace BO := hide ((unhide BO).later hb)
  replace HB := hide (below_on (unhide HB) hb)
  clear hb ho ha hn
  have bS1 : nS1 ≤ 400000 := Nat.le_trans ((unhide S1).le (unhide BO) (by have := unhide LL0; omega)) bBO
  have CMI : Hid (Calls Try.prog 90 #[.slice aS1 nS1 cS1, .slice aHI nHI cHI] w14 (Out w14 ((L + H) * (L' + H') - L * L' - H * H'))) := hide (by have := subS_any aS1 aHI nS1 nHI cS1 cHI _ _ w14 (unhide S1).arg (unhide HI).arg (unhide S1).nm.ok (unhide HI).nm.ok (by omega) ((unhide HI).le (unhide S1) (unhide ML).2) (by rw [(unhide S1).nm.v, (unhide HI).nm.v]; exact (unhide ML).2); rw [(unhide S1).nm.v, (unhide HI).nm.v] at this; exact this)
  go_wp2_with fail
  refine (unhide CMI).mono ?_
  rintro e w15 ⟨aMI, nMI, cMI, zMI, rfl, hb, ho, ha, hn⟩
  have MI : Hid (At w15 aMI nMI cMI zMI ((L + H) * (L' + H') - L * L' - H * H')) := hide ⟨ha, hn⟩
  clear CMI
  replace LO := hide ((unhide LO).later hb)
  replace HI := hide ((unhide HI).later hb)
  replace BO := hide ((unhide BO).later hb)
  replace S1 := hide ((unhide S1).later hb)
  replace HB := hide (below_on (unhide HB) hb)
  clear hb ho ha hn
  have bMI : nMI ≤ 400000 := Nat.le_trans ((unhide MI).le (unhide S1) (by have := unhide HH0; omega)) bS1
  go_wp2_with fail
  refine (shiftS_any aMI nMI cMI _ h rfl zMI w15 (unhide MI).arg (unhide MI).nm.ok (by omega) (by omega)).mono ?_
  rintro e w16 ⟨a8, n8, c8, z8, rfl, hb, ho, ha, hk8, hv8, hl8⟩
  have M8 := hide (And.intro ha (And.intro hk8 hv8))
  have b8 : n8 ≤ 600000 := by rw [← ha.len]; omega
  replace LO := hide ((unhide LO).later hb)
  replace HI := hide ((unhide HI).later hb)
  replace MI := hide ((unhide MI).later hb)
  replace HB := hide (below_on (unhide HB) hb)
  clear hb ho ha hk8 hv8 hl8
  go_wp2_with fail
  refine (shiftS_any aHI nHI cHI _ (2 * h) (by omega) zHI w16 (unhide HI).arg (unhide HI).nm.ok (by omega) (by omega)).mono ?_
  rintro e w17 ⟨a9, n9, c9, z9, rfl, hb, ho, ha, hk9, hv9, hl9⟩
  have b9 : n9 ≤ 600000 := by rw [← ha.len]; omega
  have A8 := hide ((unhide M8).1.later hb)
  replace LO := hide ((unhide LO).later hb)
  replace HB := hide (below_on (unhide HB) hb)
  have CA1 := hide (addS_any a8 a9 n8 n9 c8 c9 z8 z9 w17 (unhide A8) ha (unhide M8).2.1 hk9 (by omega) (by omega))
  have HV9 := hide hv9
  clear hb ho ha hk9 hv9 hl9
  go_wp2_with fail
  refine (unhide CA1).mono ?_
  rintro e w18 ⟨a10, n10, c10, z10, rfl, hb, ho, ha, hk, hv, hl⟩
  have b10 : n10 ≤ 600001 := by rw [← ha.len]; omega
  replace LO := hide ((unhide LO).later hb)
  replace HB := hide (below_on (unhide HB) hb)
  have CA2 : Hid (Calls Try.prog 78 #[.slice aLO nLO cLO, .slice a10 n10 c10] w18 (OutU w18 (X * Y) (max nLO n10 + 1))) := hide (by
    have := addS_any aLO a10 nLO n10 cLO c10 zLO z10 w18 (unhide LO).arg ha (unhide LO).nm.ok hk (by omega) (by omega)
    rw [(unhide LO).nm.v, hv, (unhide M8).2.2, unhide HV9, (unhide MI).nm.v, (unhide HI).nm.v] at this
    rw [show (65536 : Int) ^ (2 * h) = 65536 ^ h * 65536 ^ h by rw [← Int.pow_add]; congr 1; omega, kara, ← unhide PX, ← unhide PY] at this
    exact this)
  clear hb ho ha hk hv hl CA1
  go_wp2_with fail
  refine (unhide CA2).mono ?_
  rintro e w19 ⟨a11, n11, c11, z11, rfl, hb, ho, ha, hk, hv, hl⟩
  have b11 : n11 ≤ 700000 := by rw [← ha.len]; omega
  replace HB := hide (below_on (unhide HB) hb)
  have HF := hide (And.intro ha (And.intro hk hv))
  clear hb ho ha hk hv hl CA2
  go_wp2_with fail
  refine (cut_any a11 n11 c11 z11 w19 (unhide HF).1 (by omega)).mono ?_
  rintro e w20 ⟨a12, n12, c12, rfl, hb, ho, ha⟩
  have HG := hide (And.intro (below_on (unhide HB) hb) (And.intro (ho.mono (unhide HB).size) ha))
  clear hb ho ha
  go_wp2_with fail
  go_ret
  exact ⟨a12, n12, c12, _, rfl, (unhide HG).1, (unhide HG).2.1, (unhide HG).2.2, by rw [← (unhide HF).2.2]; exact Nm.trimmed (unhide HF).2.1⟩

set_option maxRecDepth 100000 in
set_option maxHeartbeats 8000000 in
theorem halvS_step_ge (k : Nat) (IH : Hid (HalvSaidS k)) (a a' : Option Addr) (n m c c' h : Nat) (xs ys : List Int) (X Y : Int) (w : World) (hx : At w a n c xs X) (hy : At w a' m c' ys Y) (hk : X + Y ≤ k + 1) (h1 : n ≤ 200000) (h2 : m ≤ 200000) (hnm : ¬ n < m) (hN : 3 ≤ n) (hh : ((n : Nat) : Int) / 2 = (h : Int)) :
    Calls Try.prog 55 #[.slice a n c, .slice a' m c'] w (Out w (X * Y)) := by
  have HX := hide hx
  have HY := hide hy
  have hh1 : 1 ≤ h := by omega
  have hh2 : h ≤ 100000 := by omega
  obtain ⟨L, HLe⟩ : ∃ L, Hid (val (xs.take h) = L) := ⟨_, hide rfl⟩
  obtain ⟨H, HHe⟩ : ∃ H, Hid (val (xs.drop h) = H) := ⟨_, hide rfl⟩
  obtain ⟨L', HLe'⟩ : ∃ L', Hid (val (ys.take h) = L') := ⟨_, hide rfl⟩
  obtain ⟨H', HHe'⟩ : ∃ H', Hid (val (ys.drop h) = H') := ⟨_, hide rfl⟩
  have PX : Hid (X = L + 65536 ^ h * H) := hide (by rw [← unhide HLe, ← unhide HHe, ← part_val, hx.nm.v])
  have PY : Hid (Y = L' + 65536 ^ h * H') := hide (by rw [← unhide HLe', ← unhide HHe', ← part_val, hy.nm.v])
  have L0 : Hid (0 ≤ L) := hide (by rw [← unhide HLe]; exact val_nonneg (okL_take hx.nm.ok h))
  have H0 : Hid (0 ≤ H) := hide (by rw [← unhide HHe]; exact val_nonneg (okL_drop hx.nm.ok h))
  have L0' : Hid (0 ≤ L') := hide (by rw [← unhide HLe']; exact val_nonneg (okL_take hy.nm.ok h))
  have H0' : Hid (0 ≤ H') := hide (by rw [← unhide HHe']; exact val_nonneg (okL_drop hy.nm.ok h))
  have HP : Hid ((65536 : Int) ≤ 65536 ^ h) := hide (by have := pow_mono hh1; simpa using this)
  have HM1 : Hid (65536 * H ≤ 65536 ^ h * H) := hide (Int.mul_le_mul_of_nonneg_right (unhide HP) (unhide H0))
  have HM2 : Hid (65536 * H' ≤ 65536 ^ h * H') := hide (Int.mul_le_mul_of_nonneg_right (unhide HP) (unhide H0'))
  have HT : Hid (0 < H + H') := hide (by
    have nx := (val_zero_iff (okL_drop hx.nm.ok h) (trim_drop hx.nm.tr h))
    have ny := (val_zero_iff (okL_drop hy.nm.ok h) (trim_drop hy.nm.tr h))
    rw [unhide HHe] at nx
    rw [unhide HHe'] at ny
    have hp := unhide H0
    have hp' := unhide H0'
    by_cases hz : H = 0
    · by_cases hz' : H' = 0
      · have e1 := congrArg List.length (nx.1 hz)
        have e2 := congrArg List.length (ny.1 hz')
        rw [List.length_drop, List.length_nil, hx.arg.len] at e1
        rw [List.length_drop, List.length_nil, hy.arg.len] at e2
        omega
      · omega
    · omega)
  have D1 : Hid (L + L' ≤ k) := hide (by have := unhide PX; have := unhide PY; have := unhide HM1; have := unhide HM2; have := unhide HT; have := unhide H0; have := unhide H0'; omega)
  have D2 : Hid (H + H' ≤ k) := hide (by have := unhide PX; have := unhide PY; have := unhide HM1; have := unhide HM2; have := unhide HT; have := unhide L0; have := unhide L0'; have := unhide H0; have := unhide H0'; omega)
  have D3 : Hid ((L + H) + (L' + H') ≤ k) := hide (by have := unhide PX; have := unhide PY; have := unhide HM1; have := unhide HM2; have := unhide HT; have := unhide H0; have := unhide H0'; omega)
  have X1 : Hid (L ≤ X ∧ H ≤ X ∧ L + H ≤ X) := hide (by have := unhide PX; have := unhide HM1; have := unhide H0; have := unhide L0; omega)
  have Y1 : Hid (L' ≤ Y ∧ H' ≤ Y ∧ L' + H' ≤ Y) := hide (by have := unhide PY; have := unhide HM2; have := unhide H0'; have := unhide L0'; omega)
  have TX := hide hx.nm
  have TY := hide hy.nm
  clear hx hy hk
  have e2 : ¬ (n : Int) ≤ 2 := by omega
  have NL : Hid (Nm (trim (xs.take h)) L) := hide (by rw [← unhide HLe]; exact Nm.trimmed (okL_take (unhide TX).ok h))
  have NH : Hid (Nm (xs.drop h) H) := hide ⟨okL_drop (unhide TX).ok h, trim_drop (unhide TX).tr h, unhide HHe⟩
  have NL' : Hid (Nm (trim (ys.take h)) L') := hide (by rw [← unhide HLe']; exact Nm.trimmed (okL_take (unhide TY).ok h))
  have NH' : Hid (Nm (ys.drop h) H') := hide ⟨okL_drop (unhide TY).ok h, trim_drop (unhide TY).tr h, unhide HHe'⟩
  go_enter Try.func55, Try.ntmps55
  go_wp2_with fail
  refine (lowS_any a n c h xs w (unhide HX).arg (by omega) (by omega)).mono ?_
  rintro e w1 ⟨aAL, nAL, cAL, rfl, hb, g⟩
  have AL : Hid (At w1 aAL nAL cAL _ L) := hide ⟨g, unhide NL⟩
  have bAL : nAL ≤ 200000 := Nat.le_trans ((unhide AL).le (unhide HX) (unhide X1).1) h1
  replace HX := hide ((unhide HX).later hb)
  replace HY := hide ((unhide HY).later hb)
  have HB := hide hb
  clear hb g
  go_wp2_with fail
  refine (lowS_any a' m c' h ys w1 (unhide HY).arg (by omega) (by omega)).mono ?_
  rintro e w2 ⟨aBL, nBL, cBL, rfl, hb, g⟩
  have BL : Hid (At w2 aBL nBL cBL _ L') := hide ⟨g, unhide NL'⟩
  have bBL : nBL ≤ 200000 := Nat.le_trans ((unhide BL).le (unhide HY) (unhide Y1).1) h2
  replace HX := hide ((unhide HX).later hb)
  replace HY := hide ((unhide HY).later hb)
  replace AL := hide ((unhide AL).later hb)
  replace HB := hide (below_on (unhide HB) hb)
  clear hb g
  go_wp2_with fail
  refine (unhide IH _ _ _ _ _ _ _ _ _ _ w2 (unhide AL) (unhide BL) (unhide D1) bAL bBL).mono ?_
  rintro e w3 ⟨aLO, nLO, cLO, zLO, rfl, hb, ho, ha, hn⟩
  have LO : Hid (At w3 aLO nLO cLO zLO (L * L')) := hide ⟨ha, hn⟩
  replace HX := hide ((unhide HX).later hb)
  replace HY := hide ((unhide HY).later hb)
  replace AL := hide ((unhide AL).later hb)
  replace BL := hide ((unhide BL).later hb)
  replace HB := hide (below_on (unhide HB) hb)
  clear hb ho ha hn
  have bLO : nLO ≤ 400000 := by have := len_mul (unhide AL) (unhide BL) (unhide LO); omega
  go_wp2_with fail
  refine (highS_any a n c h xs w3 (unhide HX).arg (unhide TX).tr (by omega) (by omega)).mono ?_
  rintro e w4 ⟨aAH, nAH, cAH, rfl, hb, g⟩
  have AH : Hid (At w4 aAH nAH cAH _ H) := hide ⟨g, unhide NH⟩
  have bAH : nAH ≤ 200000 := Nat.le_trans ((unhide AH).le (unhide HX) (unhide X1).2.1) h1
  replace HX := hide ((unhide HX).later hb)
  replace HY := hide ((unhide HY).later hb)
  replace LO := hide ((unhide LO).later hb)
  replace HB := hide (below_on (unhide HB) hb)
  clear hb g
  go_wp2_with fail
  refine (highS_any a' m c' h ys w4 (unhide HY).arg (unhide TY).tr (by omega) (by omega)).mono ?_
  rintro e w5 ⟨aBH, nBH, cBH, rfl, hb, g⟩
  have BH : Hid (At w5 aBH nBH cBH _ H') := hide ⟨g, unhide NH'⟩
  have bBH : nBH ≤ 200000 := Nat.le_trans ((unhide BH).le (unhide HY) (unhide Y1).2.1) h2
  replace HX := hide ((unhide HX).later hb)
  replace HY := hide ((unhide HY).later hb)
  replace LO := hide ((unhide LO).later hb)
  replace AH := hide ((unhide AH).later hb)
  replace HB := hide (below_on (unhide HB) hb)
  clear hb g
  go_wp2_with fail
  refine (unhide IH _ _ _ _ _ _ _ _ _ _ w5 (unhide AH) (unhide BH) (unhide D2) bAH bBH).mono ?_
  rintro e w6 ⟨aHI, nHI, cHI, zHI, rfl, hb, ho, ha, hn⟩
  have HI : Hid (At w6 aHI nHI cHI zHI (H * H')) := hide ⟨ha, hn⟩
  replace HX := hide ((unhide HX).later hb)
  replace HY := hide ((unhide HY).later hb)
  replace LO := hide ((unhide LO).later hb)
  replace AH := hide ((unhide AH).later hb)
  replace BH := hide ((unhide BH).later hb)
  replace HB := hide (below_on (unhide HB) hb)
  clear hb ho ha hn
  have bHI : nHI ≤ 400000 := by have := len_mul (unhide AH) (unhide BH) (unhide HI); omega
  go_wp2_with fail
  refine (lowS_any a n c h xs w6 (unhide HX).arg (by omega) (by omega)).mono ?_
  rintro e w7 ⟨aCL, nCL, cCL, rfl, hb, g⟩
  have CL : Hid (At w7 aCL nCL cCL _ L) := hide ⟨g, unhide NL⟩
  have bCL : nCL ≤ 200000 := Nat.le_trans ((unhide CL).le (unhide HX) (unhide X1).1) h1
  replace HX := hide ((unhide HX).later hb)
  replace HY := hide ((unhide HY).later hb)
  replace LO := hide ((unhide LO).later hb)
  replace HI := hide ((unhide HI).later hb)
  replace HB := hide (below_on (unhide HB) hb)
  clear hb g
  go_wp2_with fail
  refine (highS_any a n c h xs w7 (unhide HX).arg (unhide TX).tr (by omega) (by omega)).mono ?_
  rintro e w8 ⟨aCH, nCH, cCH, rfl, hb, g⟩
  have CH : Hid (At w8 aCH nCH cCH _ H) := hide ⟨g, unhide NH⟩
  have bCH : nCH ≤ 200000 := Nat.le_trans ((unhide CH).le (unhide HX) (unhide X1).2.1) h1
  replace HX := hide ((unhide HX).later hb)
  replace HY := hide ((unhide HY).later hb)
  replace LO := hide ((unhide LO).later hb)
  replace HI := hide ((unhide HI).later hb)
  replace CL := hide ((unhide CL).later hb)
  replace HB := hide (below_on (unhide HB) hb)
  clear hb g
  have CSA : Hid (Calls Try.prog 78 #[.slice aCL nCL cCL, .slice aCH nCH cCH] w8 (Out w8 (L + H))) := hide (by have := addT_any aCL aCH nCL nCH cCL cCH _ _ w8 (unhide CL).arg (unhide CH).arg (unhide CL).nm.ok (unhide CH).nm.ok (unhide CL).nm.tr (unhide CH).nm.tr (by omega) (by omega); rw [(unhide CL).nm.v, (unhide CH).nm.v] at this; exact this)
  go_wp2_with fail
  refine (unhide CSA).mono ?_
  rintro e w9 ⟨aSA, nSA, cSA, zSA, rfl, hb, ho, ha, hn⟩
  have SA : Hid (At w9 aSA nSA cSA zSA (L + H)) := hide ⟨ha, hn⟩
  clear CSA
  replace HX := hide ((unhide HX).later hb)
  replace HY := hide ((unhide HY).later hb)
  replace LO := hide ((unhide LO).later hb)
  replace HI := hide ((unhide HI).later hb)
  replace CL := hide ((unhide CL).later hb)
  replace CH := hide ((unhide CH).later hb)
  replace HB := hide (below_on (unhide HB) hb)
  clear hb ho ha hn
  go_wp2_with fail
  refine (lowS_any a' m c' h ys w9 (unhide HY).arg (by omega) (by omega)).mono ?_
  rintro e w10 ⟨aDL, nDL, cDL, rfl, hb, g⟩
  have DL : Hid (At w10 aDL nDL cDL _ L') := hide ⟨g, unhide NL'⟩
  have bDL : nDL ≤ 200000 := Nat.le_trans ((unhide DL).le (unhide HY) (unhide Y1).1) h2
  replace HX := hide ((unhide HX).later hb)
  replace HY := hide ((unhide HY).later hb)
  replace LO := hide ((unhide LO).later hb)
  replace HI := hide ((unhide HI).later hb)
  replace SA := hide ((unhide SA).later hb)
  replace HB := hide (below_on (unhide HB) hb)
  clear hb g
  go_wp2_with fail
  refine (highS_any a' m c' h ys w10 (unhide HY).arg (unhide TY).tr (by omega) (by omega)).mono ?_
  rintro e w11 ⟨aDH, nDH, cDH, rfl, hb, g⟩
  have DH : Hid (At w11 aDH nDH cDH _ H') := hide ⟨g, unhide NH'⟩
  have bDH : nDH ≤ 200000 := Nat.le_trans ((unhide DH).le (unhide HY) (unhide Y1).2.1) h2
  replace HX := hide ((unhide HX).later hb)
  replace HY := hide ((unhide HY).later hb)
  replace LO := hide ((unhide LO).later hb)
  replace HI := hide ((unhide HI).later hb)
  replace SA := hide ((unhide SA).later hb)
  replace DL := hide ((unhide DL).later hb)
  replace HB := hide (below_on (unhide HB) hb)
  clear hb g
  have CSB : Hid (Calls Try.prog 78 #[.slice aDL nDL cDL, .slice aDH nDH cDH] w11 (Out w11 (L' + H'))) := hide (by have := addT_any aDL aDH nDL nDH cDL cDH _ _ w11 (unhide DL).arg (unhide DH).arg (unhide DL).nm.ok (unhide DH).nm.ok (unhide DL).nm.tr (unhide DH).nm.tr (by omega) (by omega); rw [(unhide DL).nm.v, (unhide DH).nm.v] at this; exact this)
  go_wp2_with fail
  refine (unhide CSB).mono ?_
  rintro e w12 ⟨aSB, nSB, cSB, zSB, rfl, hb, ho, ha, hn⟩
  have SB : Hid (At w12 aSB nSB cSB zSB (L' + H')) := hide ⟨ha, hn⟩
  clear CSB
  replace HX := hide ((unhide HX).later hb)
  replace HY := hide ((unhide HY).later hb)
  replace LO := hide ((unhide LO).later hb)
  replace HI := hide ((unhide HI).later hb)
  replace SA := hide ((unhide SA).later hb)
  replace DL := hide ((unhide DL).later hb)
  replace DH := hide ((unhide DH).later hb)
  replace HB := hide (below_on (unhide HB) hb)
  clear hb ho ha hn
  have bSA : nSA ≤ 200000 := Nat.le_trans ((unhide SA).le (unhide HX) (unhide X1).2.2) h1
  have bSB : nSB ≤ 200000 := Nat.le_trans ((unhide SB).le (unhide HY) (unhide Y1).2.2) h2
  go_wp2_with fail
  refine (unhide IH _ _ _ _ _ _ _ _ _ _ w12 (unhide SA) (unhide SB) (unhide D3) bSA bSB).mono ?_
  rintro e w13 ⟨aBO, nBO, cBO, zBO, rfl, hb, ho, ha, hn⟩
  have BO : Hid (At w13 aBO nBO cBO zBO ((L + H) * (L' + H'))) := hide ⟨ha, hn⟩
  replace HX := hide ((unhide HX).later hb)
  replace HY := hide ((unhide HY).later hb)
  replace LO := hide ((unhide LO).later hb)
  replace HI := hide ((unhide HI).later hb)
  replace SA := hide ((unhide SA).later hb)
  replace SB := hide ((unhide SB).later hb)
  replace HB := hide (below_on (unhide HB) hb)
  clear hb ho ha hn
  have bBO : nBO ≤ 400000 := by have := len_mul (unhide SA) (unhide SB) (unhide BO); omega
  have ML := hide (mid_le (unhide L0) (unhide H0) (unhide L0') (unhide H0'))
  have LL0 : Hid (0 ≤ L * L') := hide (Int.mul_nonneg (unhide L0) (unhide L0'))
  have HH0 : Hid (0 ≤ H * H') := hide (Int.mul_nonneg (unhide H0) (unhide H0'))
  have CS1 : Hid (Calls Try.prog 90 #[.slice aBO nBO cBO, .slice aLO nLO cLO] w13 (Out w13 ((L + H) * (L' + H') - L * L'))) := hide (by have := subS_any aBO aLO nBO nLO cBO cLO _ _ w13 (unhide BO).arg (unhide LO).arg (unhide BO).nm.ok (unhide LO).nm.ok (by omega) ((unhide LO).le (unhide BO) (unhide ML).1) (by rw [(unhide BO).nm.v, (unhide LO).nm.v]; exact (unhide ML).1); rw [(unhide BO).nm.v, (unhide LO).nm.v] at this; exact this)
  go_wp2_with fail
  refine (unhide CS1).mono ?_
  rintro e w14 ⟨aS1, nS1, cS1, zS1, rfl, hb, ho, ha, hn⟩
  have S1 : Hid (At w14 aS1 nS1 cS1 zS1 ((L + H) * (L' + H') - L * L')) := hide ⟨ha, hn⟩
  clear CS1
  replace LO := hide ((unhide LO).later hb)
  replace HI := hide ((unhide HI).later hb)
  replace BO := hide ((unhide BO).later hb)
  replace HB := hide (below_on (unhide HB) hb)
  clear hb ho ha hn
  have bS1 : nS1 ≤ 400000 := Nat.le_trans ((unhide S1).le (unhide BO) (by have := unhide LL0; omega)) bBO
  have CMI : Hid (Calls Try.prog 90 #[.slice aS1 nS1 cS1, .slice aHI nHI cHI] w14 (Out w14 ((L + H) * (L' + H') - L * L' - H * H'))) := hide (by have := subS_any aS1 aHI nS1 nHI cS1 cHI _ _ w14 (unhide S1).arg (unhide HI).arg (unhide S1).nm.ok (unhide HI).nm.ok (by omega) ((unhide HI).le (unhide S1) (unhide ML).2) (by rw [(unhide S1).nm.v, (unhide HI).nm.v]; exact (unhide ML).2); rw [(unhide S1).nm.v, (unhide HI).nm.v] at this; exact this)
  go_wp2_with fail
  refine (unhide CMI).mono ?_
  rintro e w15 ⟨aMI, nMI, cMI, zMI, rfl, hb, ho, ha, hn⟩
  have MI : Hid (At w15 aMI nMI cMI zMI ((L + H) * (L' + H') - L * L' - H * H')) := hide ⟨ha, hn⟩
  clear CMI
  replace LO := hide ((unhide LO).later hb)
  replace HI := hide ((unhide HI).later hb)
  replace BO := hide ((unhide BO).later hb)
  replace S1 := hide ((unhide S1).later hb)
  replace HB := hide (below_on (unhide HB) hb)
  clear hb ho ha hn
  have bMI : nMI ≤ 400000 := Nat.le_trans ((unhide MI).le (unhide S1) (by have := unhide HH0; omega)) bS1
  go_wp2_with fail
  refine (shiftS_any aMI nMI cMI _ h rfl zMI w15 (unhide MI).arg (unhide MI).nm.ok (by omega) (by omega)).mono ?_
  rintro e w16 ⟨a8, n8, c8, z8, rfl, hb, ho, ha, hk8, hv8, hl8⟩
  have M8 := hide (And.intro ha (And.intro hk8 hv8))
  have b8 : n8 ≤ 600000 := by rw [← ha.len]; omega
  replace LO := hide ((unhide LO).later hb)
  replace HI := hide ((unhide HI).later hb)
  replace MI := hide ((unhide MI).later hb)
  replace HB := hide (below_on (unhide HB) hb)
  clear hb ho ha hk8 hv8 hl8
  go_wp2_with fail
  refine (shiftS_any aHI nHI cHI _ (2 * h) (by omega) zHI w16 (unhide HI).arg (unhide HI).nm.ok (by omega) (by omega)).mono ?_
  rintro e w17 ⟨a9, n9, c9, z9, rfl, hb, ho, ha, hk9, hv9, hl9⟩
  have b9 : n9 ≤ 600000 := by rw [← ha.len]; omega
  have A8 := hide ((unhide M8).1.later hb)
  replace LO := hide ((unhide LO).later hb)
  replace HB := hide (below_on (unhide HB) hb)
  have CA1 := hide (addS_any a8 a9 n8 n9 c8 c9 z8 z9 w17 (unhide A8) ha (unhide M8).2.1 hk9 (by omega) (by omega))
  have HV9 := hide hv9
  clear hb ho ha hk9 hv9 hl9
  go_wp2_with fail
  refine (unhide CA1).mono ?_
  rintro e w18 ⟨a10, n10, c10, z10, rfl, hb, ho, ha, hk, hv, hl⟩
  have b10 : n10 ≤ 600001 := by rw [← ha.len]; omega
  replace LO := hide ((unhide LO).later hb)
  replace HB := hide (below_on (unhide HB) hb)
  have CA2 : Hid (Calls Try.prog 78 #[.slice aLO nLO cLO, .slice a10 n10 c10] w18 (OutU w18 (X * Y) (max nLO n10 + 1))) := hide (by
    have := addS_any aLO a10 nLO n10 cLO c10 zLO z10 w18 (unhide LO).arg ha (unhide LO).nm.ok hk (by omega) (by omega)
    rw [(unhide LO).nm.v, hv, (unhide M8).2.2, unhide HV9, (unhide MI).nm.v, (unhide HI).nm.v] at this
    rw [show (65536 : Int) ^ (2 * h) = 65536 ^ h * 65536 ^ h by rw [← Int.pow_add]; congr 1; omega, kara, ← unhide PX, ← unhide PY] at this
    exact this)
  clear hb ho ha hk hv hl CA1
  go_wp2_with fail
  refine (unhide CA2).mono ?_
  rintro e w19 ⟨a11, n11, c11, z11, rfl, hb, ho, ha, hk, hv, hl⟩
  have b11 : n11 ≤ 700000 := by rw [← ha.len]; omega
  replace HB := hide (below_on (unhide HB) hb)
  have HF := hide (And.intro ha (And.intro hk hv))
  clear hb ho ha hk hv hl CA2
  go_wp2_with fail
  refine (cut_any a11 n11 c11 z11 w19 (unhide HF).1 (by omega)).mono ?_
  rintro e w20 ⟨a12, n12, c12, rfl, hb, ho, ha⟩
  have HG := hide (And.intro (below_on (unhide HB) hb) (And.intro (ho.mono (unhide HB).size) ha))
  clear hb ho ha
  go_wp2_with fail
  go_ret
  exact ⟨a12, n12, c12, _, rfl, (unhide HG).1, (unhide HG).2.1, (unhide HG).2.2, by rw [← (unhide HF).2.2]; exact Nm.trimmed (unhide HF).2.1⟩

theorem halvesS (k : Nat) : HalvSaidS k := by
  induction k with
  | zero =>
    intro a a' n m c c' xs ys X Y w hx hy hk h1 h2
    have x0 := hx.nm.nonneg
    have y0 := hy.nm.nonneg
    have ex : xs = [] := hx.nm.nil_iff.2 (by omega)
    have ey : ys = [] := hy.nm.nil_iff.2 (by omega)
    have lx := hx.arg.len
    have ly := hy.arg.len
    rw [ex] at lx
    rw [ey] at ly
    simp only [List.length_nil] at lx ly
    exact halvS_small a a' n m c c' xs ys X Y w hx hy (by omega) (by omega)
  | succ k ih =>
    intro a a' n m c c' xs ys X Y w hx hy hk h1 h2
    by_cases hs : n ≤ 2 ∧ m ≤ 2
    · exact halvS_small a a' n m c c' xs ys X Y w hx hy hs.1 hs.2
    · by_cases hnm : n < m
      · exact halvS_step_lt k (hide ih) a a' n m c c' (m / 2) xs ys X Y w hx hy (by omega) h1 h2 hnm (by omega) (by omega)
      · exact halvS_step_ge k (hide ih) a a' n m c c' (n / 2) xs ys X Y w hx hy (by omega) h1 h2 hnm (by omega) (by omega)
end Go.Proofs.Ytifiphoapjjhiaa

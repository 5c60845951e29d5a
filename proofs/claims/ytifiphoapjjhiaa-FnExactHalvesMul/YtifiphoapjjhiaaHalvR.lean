/- Products by halves: the program's mulByHalves answers the product. No condition beyond those typed. -/
import Derived.Test.YtifiphoapjjhiaaHalvI
import Derived.Test.YtifiphoapjjhiaaIntOf
namespace Go.Proofs.Ytifiphoapjjhiaa
open Go.RowKit
set_option linter.unusedVariables false
set_option linter.unusedSimpArgs false

theorem trim_drop {xs : List Int} (h : trim xs = xs) (k : Nat) : trim (xs.drop k) = xs.drop k := by
  induction xs generalizing k with
  | nil => simp [trim]
  | cons x xs ih =>
    cases k with
    | zero => simpa using h
    | succ k =>
      have h' : (if trim xs = [] ∧ x = 0 then [] else x :: trim xs) = x :: xs := h
      split at h'
      · cases h'
      · exact ih (by simpa using h') k
theorem part_val (xs : List Int) (k : Nat) : val xs = val (xs.take k) + 65536 ^ k * val (xs.drop k) := by
  by_cases h : k ≤ xs.length
  · have := val_drop xs k
    rwa [List.length_take, Nat.min_eq_left h] at this
  · rw [List.drop_of_length_le (by omega), List.take_of_length_le (by omega)]
    simp [val]
theorem kara (L H L' H' P : Int) : L * L' + (P * ((L + H) * (L' + H') - L * L' - H * H') + P * P * (H * H')) = (L + P * H) * (L' + P * H') := by
  simp only [Int.mul_add, Int.add_mul, Int.mul_sub, Int.mul_assoc, Int.mul_comm, Int.mul_left_comm]
  omega

/-- The slice reads the limbs of V. -/
structure At (w : World) (a : Option Addr) (n c : Nat) (zs : List Int) (V : Int) : Prop where
  arg : Arg w a n c zs
  nm : Nm zs V
theorem At.later {w w' : World} {a : Option Addr} {n c : Nat} {zs : List Int} {V : Int} (h : At w a n c zs V) (hb : Below w.heap.size w w') : At w' a n c zs V := ⟨h.arg.later hb, h.nm⟩
theorem At.le {w w' : World} {a a' : Option Addr} {n n' c c' : Nat} {zs zs' : List Int} {V V' : Int} (h : At w a n c zs V) (k : At w' a' n' c' zs' V') (hV : V ≤ V') : n ≤ n' := by
  rw [← h.arg.len, ← k.arg.len]
  exact len_of_val k.nm.ok h.nm.ok h.nm.tr (by rw [h.nm.v, k.nm.v]; exact hV)

theorem parts_any (a : Option Addr) (n c h : Nat) (xs : List Int) (w : World) (hx : Arg w a n c xs) (hh : h ≤ 1000000) :
    Calls Try.prog 84 #[.slice a n c, .int .i64 h] w fun e w' => ∃ a1 n1 c1 a2 n2 c2, e = .returned (.tuple #[.slice a1 n1 c1, .slice a2 n2 c2]) ∧ Below w.heap.size w w' ∧ Arg w' a1 n1 c1 (trim (xs.take h)) ∧ Arg w' a2 n2 c2 (xs.drop h) := by
  rcases hx.addr with ⟨rfl, rfl⟩ | ⟨b, off, rfl⟩
  · have h0 : n = 0 := by have := hx.cap; omega
    subst h0
    obtain rfl := List.length_eq_zero_iff.1 hx.len
    refine (parts_none h w hh).mono ?_
    rintro e w' ⟨rfl, hb⟩
    exact ⟨_, _, _, _, _, _, rfl, hb, by simpa [trim] using Arg.none w', by simpa using Arg.none w'⟩
  · by_cases hle : h ≤ n
    · refine (parts_le b off n c h xs w hx.sl hx.len hx.cap hx.top hle).mono ?_
      rintro e w' ⟨a1, n1, c1, a2, c2, rfl, hb, h1, h2⟩
      exact ⟨_, _, _, _, _, _, rfl, hb, h1, h2⟩
    · refine (parts_gt b off n c h xs w hx.sl hx.len hx.cap hx.top (by omega) hh).mono ?_
      rintro e w' ⟨a1, n1, c1, a2, c2, rfl, hb, h1, h2⟩
      refine ⟨_, _, _, _, _, _, rfl, hb, ?_, ?_⟩
      · rw [List.take_of_length_le (by rw [hx.len]; omega)]; exact h1
      · rw [List.drop_of_length_le (by rw [hx.len]; omega)]; exact h2
theorem shiftI_any' (a : Option Addr) (n c : Nat) (B : Int) (b : Nat) (hB : B = b) (xs : List Int) (w : World) (hx : Arg w a n c xs) (ox : okL xs) (h1 : n ≤ 500000) (hb : b ≤ 500000) :
    Calls Try.prog 87 #[.slice a n c, .int .i64 B] w (OutU w (65536 ^ b * val xs) (b + n)) := by subst hB; exact shiftI_any a n c b xs w hx ox h1 hb

def HalvSaid (k : Nat) : Prop := ∀ (a a' : Option Addr) (n m c c' : Nat) (xs ys : List Int) (X Y : Int) (w : World), At w a n c xs X → At w a' m c' ys Y → X + Y ≤ k → n ≤ 200000 → m ≤ 200000 →
  Calls Try.prog 53 #[.slice a n c, .slice a' m c'] w (Out w (X * Y))

set_option maxHeartbeats 4000000 in
theorem halv_small (a a' : Option Addr) (n m c c' : Nat) (xs ys : List Int) (X Y : Int) (w : World) (hx : At w a n c xs X) (hy : At w a' m c' ys Y) (h1 : n ≤ 2) (h2 : m ≤ 2) :
    Calls Try.prog 53 #[.slice a n c, .slice a' m c'] w (Out w (X * Y)) := by
  have HX := hide hx
  have HY := hide hy
  clear hx hy
  have CM : Hid (Calls Try.prog 50 #[.slice a n c, .slice a' m c'] w (Out w (X * Y))) := hide (by
    have := mulI_any a a' n m c c' xs ys w (unhide HX).arg (unhide HY).arg (unhide HX).nm.ok (unhide HY).nm.ok (by omega) (by omega)
    rw [(unhide HX).nm.v, (unhide HY).nm.v] at this
    exact this)
  by_cases hnm : n < m
  · have e2 : (m : Int) ≤ 2 := by omega
    go_enter Try.func53, Try.ntmps53
    go_wp2_with fail
    refine (unhide CM).mono ?_
    rintro e w1 ⟨a1, n1, c1, zs, rfl, hb1, ho1, ha1, hn1⟩
    have HF := hide (And.intro hb1 (And.intro ho1 (And.intro ha1 hn1)))
    clear hb1 ho1 ha1 hn1 CM
    go_wp2_with fail
    go_ret
    exact ⟨a1, n1, c1, zs, rfl, (unhide HF).1, (unhide HF).2.1, (unhide HF).2.2.1, (unhide HF).2.2.2⟩
  · have e2 : (n : Int) ≤ 2 := by omega
    go_enter Try.func53, Try.ntmps53
    go_wp2_with fail
    refine (unhide CM).mono ?_
    rintro e w1 ⟨a1, n1, c1, zs, rfl, hb1, ho1, ha1, hn1⟩
    have HF := hide (And.intro hb1 (And.intro ho1 (And.intro ha1 hn1)))
    clear hb1 ho1 ha1 hn1 CM
    go_wp2_with fail
    go_ret
    exact ⟨a1, n1, c1, zs, rfl, (unhide HF).1, (unhide HF).2.1, (unhide HF).2.2.1, (unhide HF).2.2.2⟩

theorem len_mul {w w' w'' : World} {a a' a'' : Option Addr} {n n' n'' c c' c'' : Nat} {zs zs' zs'' : List Int} {U V : Int} (h : At w a n c zs U) (k : At w' a' n' c' zs' V) (q : At w'' a'' n'' c'' zs'' (U * V)) : n'' ≤ n + n' := by
  have h1 := val_lt h.nm.ok
  have h2 := val_lt k.nm.ok
  rw [h.nm.v, h.arg.len] at h1
  rw [k.nm.v, k.arg.len] at h2
  by_cases h0 : n'' = 0
  · omega
  have h3 := top_le q.nm.ok q.nm.tr (by rw [q.arg.len]; omega)
  rw [q.nm.v, q.arg.len] at h3
  by_cases hl : n'' ≤ n + n'
  · exact hl
  · have p1 := h.nm.nonneg
    have p2 := k.nm.nonneg
    have pk : (0 : Int) < 65536 ^ n' := Int.pow_pos (by omega)
    have pn : (0 : Int) < 65536 ^ n := Int.pow_pos (by omega)
    have h4 : U * V ≤ U * 65536 ^ n' := Int.mul_le_mul_of_nonneg_left (by omega) p1
    have h5 : U * 65536 ^ n' < 65536 ^ n * 65536 ^ n' := Int.mul_lt_mul_of_pos_right h1 pk
    rw [← Int.pow_add] at h5
    have h6 := pow_mono (show n + n' ≤ n'' - 1 by omega)
    omega
theorem add_len2 {zs us vs : List Int} {N : Nat} (h : Nm zs (val us + val vs)) (ou : okL us) (ov : okL vs) (hu : us.length ≤ N) (hv : vs.length ≤ N) : zs.length ≤ N + 1 := by
  by_cases hl : zs.length ≤ N + 1
  · exact hl
  · have q1 := top_le h.ok h.tr (by omega)
    rw [h.v] at q1
    have q2 := val_lt ou
    have q3 := val_lt ov
    have q4 := pow_mono hu
    have q5 := pow_mono hv
    have q6 := pow_mono (show N + 1 ≤ zs.length - 1 by omega)
    rw [Int.pow_succ] at q6
    have q7 : (0 : Int) < 65536 ^ N := Int.pow_pos (by omega)
    omega

theorem mid_le {L H L' H' : Int} (l : 0 ≤ L) (h : 0 ≤ H) (l' : 0 ≤ L') (h' : 0 ≤ H') : L * L' ≤ (L + H) * (L' + H') ∧ H * H' ≤ (L + H) * (L' + H') - L * L' := by
  have e : (L + H) * (L' + H') = L * L' + H * L' + (L * H' + H * H') := by simp only [Int.mul_add, Int.add_mul]
  have p1 := Int.mul_nonneg l h'
  have p2 := Int.mul_nonneg h l'
  have p3 := Int.mul_nonneg h h'
  omega

set_option maxRecDepth 100000 in
set_option maxHeartbeats 8000000 in
theorem halv_step_lt (k : Nat) (IH : Hid (HalvSaid k)) (a a' : Option Addr) (n m c c' h : Nat) (xs ys : List Int) (X Y : Int) (w : World) (hx : At w a n c xs X) (hy : At w a' m c' ys Y) (hk : X + Y ≤ k + 1) (h1 : n ≤ 200000) (h2 : m ≤ 200000) (hnm : n < m) (hN : 3 ≤ m) (hh : ((m : Nat) : Int) / 2 = (h : Int)) :
    Calls Try.prog 53 #[.slice a n c, .slice a' m c'] w (Out w (X * Y)) := by
  have HX := hide hx
  have HY := hide hy
  have hh1 : 1 ≤ h := by omega
  have hh2 : h ≤ 100000 := by omega
  obtain ⟨L, HLe⟩ : ∃ L, Hid (val (xs.take h) = L) := ⟨_, hide rfl⟩
  obtain ⟨H, HHe⟩ : ∃ H, Hid (val (xs.drop h) = H) := ⟨_, hide rfl⟩
  obtain ⟨L', HLe'⟩ : ∃ L', Hid (val (ys.take h) = L') := ⟨_, hide rfl⟩
  obtain ⟨H', HHe'⟩ : ∃ H', Hid (val (ys.drop h) = H') := ⟨_, hide rfl⟩
  have PX : Hid (X = L + 65536 ^ h * H) := hide (by rw [← unhide HLe, ← unhide HHe, ← part_val, hx.nm.v])
  have PY : Hid (Y = L' + 65536 ^ h * H') := hide (by rw [← unhide HLe', ← unhide HHe', ← part_val, hy.nm.v])
  have L0 : Hid (0 ≤ L) := hide (by rw [← unhide HLe]; exact val_nonneg (okL_take hx.nm.ok h))
  have H0 : Hid (0 ≤ H) := hide (by rw [← unhide HHe]; exact val_nonneg (okL_drop hx.nm.ok h))
  have L0' : Hid (0 ≤ L') := hide (by rw [← unhide HLe']; exact val_nonneg (okL_take hy.nm.ok h))
  have H0' : Hid (0 ≤ H') := hide (by rw [← unhide HHe']; exact val_nonneg (okL_drop hy.nm.ok h))
  have HP : Hid ((65536 : Int) ≤ 65536 ^ h) := hide (by have := pow_mono hh1; simpa using this)
  have HM1 : Hid (65536 * H ≤ 65536 ^ h * H) := hide (Int.mul_le_mul_of_nonneg_right (unhide HP) (unhide H0))
  have HM2 : Hid (65536 * H' ≤ 65536 ^ h * H') := hide (Int.mul_le_mul_of_nonneg_right (unhide HP) (unhide H0'))
  have HT : Hid (0 < H + H') := hide (by
    have nx := (val_zero_iff (okL_drop hx.nm.ok h) (trim_drop hx.nm.tr h))
    have ny := (val_zero_iff (okL_drop hy.nm.ok h) (trim_drop hy.nm.tr h))
    rw [unhide HHe] at nx
    rw [unhide HHe'] at ny
    have hp := unhide H0
    have hp' := unhide H0'
    by_cases hz : H = 0
    · by_cases hz' : H' = 0
      · have e1 := congrArg List.length (nx.1 hz)
        have e2 := congrArg List.length (ny.1 hz')
        rw [List.length_drop, List.length_nil, hx.arg.len] at e1
        rw [List.length_drop, List.length_nil, hy.arg.len] at e2
        omega
      · omega
    · omega)
  have D1 : Hid (L + L' ≤ k) := hide (by have := unhide PX; have := unhide PY; have := unhide HM1; have := unhide HM2; have := unhide HT; have := unhide H0; have := unhide H0'; omega)
  have D2 : Hid (H + H' ≤ k) := hide (by have := unhide PX; have := unhide PY; have := unhide HM1; have := unhide HM2; have := unhide HT; have := unhide L0; have := unhide L0'; have := unhide H0; have := unhide H0'; omega)
  have D3 : Hid ((L + H) + (L' + H') ≤ k) := hide (by have := unhide PX; have := unhide PY; have := unhide HM1; have := unhide HM2; have := unhide HT; have := unhide H0; have := unhide H0'; omega)
  have X1 : Hid (L ≤ X ∧ H ≤ X ∧ L + H ≤ X) := hide (by have := unhide PX; have := unhide HM1; have := unhide H0; have := unhide L0; omega)
  have Y1 : Hid (L' ≤ Y ∧ H' ≤ Y ∧ L' + H' ≤ Y) := hide (by have := unhide PY; have := unhide HM2; have := unhide H0'; have := unhide L0'; omega)
  have TX := hide hx.nm
  have TY := hide hy.nm
  clear hx hy hk
  have e2 : ¬ (m : Int) ≤ 2 := by omega
  go_enter Try.func53, Try.ntmps53
  go_wp2_with fail
  refine (parts_any a n c h xs w (unhide HX).arg (by omega)).mono ?_
  rintro e w1 ⟨aL, nL, cL, aH, nH, cH, rfl, hb1, gL, gH⟩
  have AL : Hid (At w1 aL nL cL (trim (xs.take h)) L) := hide ⟨gL, by rw [← unhide HLe]; exact Nm.trimmed (okL_take (unhide TX).ok h)⟩
  have AH : Hid (At w1 aH nH cH (xs.drop h) H) := hide ⟨gH, okL_drop (unhide TX).ok h, trim_drop (unhide TX).tr h, unhide HHe⟩
  have bL : nL ≤ 200000 := Nat.le_trans ((unhide AL).le (unhide HX) (unhide X1).1) h1
  have bH : nH ≤ 200000 := Nat.le_trans ((unhide AH).le (unhide HX) (unhide X1).2.1) h1
  replace HX := hide ((unhide HX).later hb1)
  replace HY := hide ((unhide HY).later hb1)
  have HB := hide hb1
  clear hb1 gL gH
  generalize trim (xs.take h) = xL at *
  generalize xs.drop h = xH at *
  go_wp2_with fail
  refine (parts_any a' m c' h ys w1 (unhide HY).arg (by omega)).mono ?_
  rintro e w2 ⟨bL', nL', cL', bH', nH', cH', rfl, hb2, gL, gH⟩
  have BL : Hid (At w2 bL' nL' cL' (trim (ys.take h)) L') := hide ⟨gL, by rw [← unhide HLe']; exact Nm.trimmed (okL_take (unhide TY).ok h)⟩
  have BH : Hid (At w2 bH' nH' cH' (ys.drop h) H') := hide ⟨gH, okL_drop (unhide TY).ok h, trim_drop (unhide TY).tr h, unhide HHe'⟩
  have cbL : nL' ≤ 200000 := Nat.le_trans ((unhide BL).le (unhide HY) (unhide Y1).1) h2
  have cbH : nH' ≤ 200000 := Nat.le_trans ((unhide BH).le (unhide HY) (unhide Y1).2.1) h2
  replace HX := hide ((unhide HX).later hb2)
  replace HY := hide ((unhide HY).later hb2)
  replace AL := hide ((unhide AL).later hb2)
  replace AH := hide ((unhide AH).later hb2)
  replace HB := hide (below_on (unhide HB) hb2)
  clear hb2 gL gH
  generalize trim (ys.take h) = yL at *
  generalize ys.drop h = yH at *
  go_wp2_with fail
  refine (unhide IH _ _ _ _ _ _ _ _ _ _ w2 (unhide AL) (unhide BL) (unhide D1) bL cbL).mono ?_
  rintro e w3 ⟨a1, n1, c1, z1, rfl, hb, ho, ha, hn⟩
  have LO : Hid (At w3 a1 n1 c1 z1 (L * L')) := hide ⟨ha, hn⟩
  replace HX := hide ((unhide HX).later hb)
  replace HY := hide ((unhide HY).later hb)
  replace AL := hide ((unhide AL).later hb)
  replace AH := hide ((unhide AH).later hb)
  replace BL := hide ((unhide BL).later hb)
  replace BH := hide ((unhide BH).later hb)
  replace HB := hide (below_on (unhide HB) hb)
  clear hb ho ha hn
  go_wp2_with fail
  refine (unhide IH _ _ _ _ _ _ _ _ _ _ w3 (unhide AH) (unhide BH) (unhide D2) bH cbH).mono ?_
  rintro e w4 ⟨a2, n2, c2, z2, rfl, hb, ho, ha, hn⟩
  have HI : Hid (At w4 a2 n2 c2 z2 (H * H')) := hide ⟨ha, hn⟩
  replace HX := hide ((unhide HX).later hb)
  replace HY := hide ((unhide HY).later hb)
  replace AL := hide ((unhide AL).later hb)
  replace AH := hide ((unhide AH).later hb)
  replace BL := hide ((unhide BL).later hb)
  replace BH := hide ((unhide BH).later hb)
  replace LO := hide ((unhide LO).later hb)
  replace HB := hide (below_on (unhide HB) hb)
  clear hb ho ha hn
  have CA : Hid (Calls Try.prog 85 #[.slice aL nL cL, .slice aH nH cH] w4 (Out w4 (L + H))) := hide (by have := addI_any aL aH nL nH cL cH xL xH w4 (unhide AL).arg (unhide AH).arg (unhide AL).nm.ok (unhide AH).nm.ok (by omega) (by omega); rw [(unhide AL).nm.v, (unhide AH).nm.v] at this; exact this)
  go_wp2_with fail
  refine (unhide CA).mono ?_
  rintro e w5 ⟨a3, n3, c3, z3, rfl, hb, ho, ha, hn⟩
  have SA : Hid (At w5 a3 n3 c3 z3 (L + H)) := hide ⟨ha, hn⟩
  clear CA
  replace HX := hide ((unhide HX).later hb)
  replace HY := hide ((unhide HY).later hb)
  replace AL := hide ((unhide AL).later hb)
  replace AH := hide ((unhide AH).later hb)
  replace BL := hide ((unhide BL).later hb)
  replace BH := hide ((unhide BH).later hb)
  replace LO := hide ((unhide LO).later hb)
  replace HI := hide ((unhide HI).later hb)
  replace HB := hide (below_on (unhide HB) hb)
  clear hb ho ha hn
  have CB : Hid (Calls Try.prog 85 #[.slice bL' nL' cL', .slice bH' nH' cH'] w5 (Out w5 (L' + H'))) := hide (by have := addI_any bL' bH' nL' nH' cL' cH' yL yH w5 (unhide BL).arg (unhide BH).arg (unhide BL).nm.ok (unhide BH).nm.ok (by omega) (by omega); rw [(unhide BL).nm.v, (unhide BH).nm.v] at this; exact this)
  go_wp2_with fail
  refine (unhide CB).mono ?_
  rintro e w6 ⟨a4, n4, c4, z4, rfl, hb, ho, ha, hn⟩
  have SB : Hid (At w6 a4 n4 c4 z4 (L' + H')) := hide ⟨ha, hn⟩
  clear CB
  replace HX := hide ((unhide HX).later hb)
  replace HY := hide ((unhide HY).later hb)
  replace AL := hide ((unhide AL).later hb)
  replace AH := hide ((unhide AH).later hb)
  replace BL := hide ((unhide BL).later hb)
  replace BH := hide ((unhide BH).later hb)
  replace LO := hide ((unhide LO).later hb)
  replace HI := hide ((unhide HI).later hb)
  replace SA := hide ((unhide SA).later hb)
  replace HB := hide (below_on (unhide HB) hb)
  clear hb ho ha hn
  have b3 : n3 ≤ 200000 := Nat.le_trans ((unhide SA).le (unhide HX) (unhide X1).2.2) h1
  have b4 : n4 ≤ 200000 := Nat.le_trans ((unhide SB).le (unhide HY) (unhide Y1).2.2) h2
  go_wp2_with fail
  refine (unhide IH _ _ _ _ _ _ _ _ _ _ w6 (unhide SA) (unhide SB) (unhide D3) b3 b4).mono ?_
  rintro e w7 ⟨a5, n5, c5, z5, rfl, hb, ho, ha, hn⟩
  have BO : Hid (At w7 a5 n5 c5 z5 ((L + H) * (L' + H'))) := hide ⟨ha, hn⟩
  replace LO := hide ((unhide LO).later hb)
  replace HI := hide ((unhide HI).later hb)
  replace HB := hide (below_on (unhide HB) hb)
  clear hb ho ha hn
  have b5 : n5 ≤ 400000 := by have := len_mul (unhide SA) (unhide SB) (unhide BO); omega
  have ML := hide (mid_le (unhide L0) (unhide H0) (unhide L0') (unhide H0'))
  have CS1 : Hid (Calls Try.prog 86 #[.slice a5 n5 c5, .slice a1 n1 c1] w7 (Out w7 ((L + H) * (L' + H') - L * L'))) := hide (by have := subI_any a5 a1 n5 n1 c5 c1 z5 z1 w7 (unhide BO).arg (unhide LO).arg (unhide BO).nm.ok (unhide LO).nm.ok (by omega) ((unhide LO).le (unhide BO) (unhide ML).1) (by rw [(unhide BO).nm.v, (unhide LO).nm.v]; exact (unhide ML).1); rw [(unhide BO).nm.v, (unhide LO).nm.v] at this; exact this)
  go_wp2_with fail
  refine (unhide CS1).mono ?_
  rintro e w8 ⟨a6, n6, c6, z6, rfl, hb, ho, ha, hn⟩
  have S1 : Hid (At w8 a6 n6 c6 z6 ((L + H) * (L' + H') - L * L')) := hide ⟨ha, hn⟩
  clear CS1
  replace LO := hide ((unhide LO).later hb)
  replace HI := hide ((unhide HI).later hb)
  replace BO := hide ((unhide BO).later hb)
  replace HB := hide (below_on (unhide HB) hb)
  have LL0 : Hid (0 ≤ L * L') := hide (Int.mul_nonneg (unhide L0) (unhide L0'))
  have HH0 : Hid (0 ≤ H * H') := hide (Int.mul_nonneg (unhide H0) (unhide H0'))
  have b6 : n6 ≤ 400000 := Nat.le_trans ((unhide S1).le (unhide BO) (by have := unhide LL0; omega)) b5
  clear hb ho ha hn
  have CS2 : Hid (Calls Try.prog 86 #[.slice a6 n6 c6, .slice a2 n2 c2] w8 (Out w8 ((L + H) * (L' + H') - L * L' - H * H'))) := hide (by have := subI_any a6 a2 n6 n2 c6 c2 z6 z2 w8 (unhide S1).arg (unhide HI).arg (unhide S1).nm.ok (unhide HI).nm.ok (by omega) ((unhide HI).le (unhide S1) (unhide ML).2) (by rw [(unhide S1).nm.v, (unhide HI).nm.v]; exact (unhide ML).2); rw [(unhide S1).nm.v, (unhide HI).nm.v] at this; exact this)
  go_wp2_with fail
  refine (unhide CS2).mono ?_
  rintro e w9 ⟨a7, n7, c7, z7, rfl, hb, ho, ha, hn⟩
  have MI : Hid (At w9 a7 n7 c7 z7 ((L + H) * (L' + H') - L * L' - H * H')) := hide ⟨ha, hn⟩
  clear CS2
  replace LO := hide ((unhide LO).later hb)
  replace HI := hide ((unhide HI).later hb)
  replace S1 := hide ((unhide S1).later hb)
  replace HB := hide (below_on (unhide HB) hb)
  have b7 : n7 ≤ 400000 := Nat.le_trans ((unhide MI).le (unhide S1) (by have := unhide HH0; omega)) b6
  have b2 : n2 ≤ 400000 := by have := len_mul (unhide AH) (unhide BH) (unhide HI); omega
  have b1 : n1 ≤ 400000 := by have := len_mul (unhide AL) (unhide BL) (unhide LO); omega
  clear hb ho ha hn
  go_wp2_with fail
  refine (shiftI_any' a7 n7 c7 _ h rfl z7 w9 (unhide MI).arg (unhide MI).nm.ok (by omega) (by omega)).mono ?_
  rintro e w10 ⟨a8, n8, c8, z8, rfl, hb, ho, ha, hk8, hv8, hl8⟩
  have M8 := hide (And.intro ha (And.intro hk8 hv8))
  have b8 : n8 ≤ 600000 := by rw [← ha.len]; omega
  replace LO := hide ((unhide LO).later hb)
  replace HI := hide ((unhide HI).later hb)
  replace MI := hide ((unhide MI).later hb)
  replace HB := hide (below_on (unhide HB) hb)
  clear hb ho ha hk8 hv8 hl8
  go_wp2_with fail
  refine (shiftI_any' a2 n2 c2 _ (2 * h) (by omega) z2 w10 (unhide HI).arg (unhide HI).nm.ok (by omega) (by omega)).mono ?_
  rintro e w11 ⟨a9, n9, c9, z9, rfl, hb, ho, ha, hk9, hv9, hl9⟩
  have b9 : n9 ≤ 600000 := by rw [← ha.len]; omega
  have A8 := hide ((unhide M8).1.later hb)
  replace LO := hide ((unhide LO).later hb)
  replace HB := hide (below_on (unhide HB) hb)
  have CA1 := hide (addI_any a8 a9 n8 n9 c8 c9 z8 z9 w11 (unhide A8) ha (unhide M8).2.1 hk9 (by omega) (by omega))
  have HV9 := hide hv9
  have K9 := hide hk9
  have L9 := hide ha.len
  clear hb ho ha hk9 hv9 hl9
  go_wp2_with fail
  refine (unhide CA1).mono ?_
  rintro e w12 ⟨a10, n10, c10, z10, rfl, hb, ho, ha, hn⟩
  have b10 : n10 ≤ 600001 := by rw [← ha.len]; exact add_len2 hn (unhide M8).2.1 (unhide K9) (by rw [(unhide A8).len]; exact b8) (by rw [unhide L9]; exact b9)
  replace LO := hide ((unhide LO).later hb)
  replace HB := hide (below_on (unhide HB) hb)
  have CA2 : Hid (Calls Try.prog 85 #[.slice a1 n1 c1, .slice a10 n10 c10] w12 (Out w12 (X * Y))) := hide (by
    have := addI_any a1 a10 n1 n10 c1 c10 z1 z10 w12 (unhide LO).arg ha (unhide LO).nm.ok hn.ok (by omega) (by omega)
    rw [(unhide LO).nm.v, hn.v, (unhide M8).2.2, unhide HV9, (unhide MI).nm.v, (unhide HI).nm.v] at this
    rw [show (65536 : Int) ^ (2 * h) = 65536 ^ h * 65536 ^ h by rw [← Int.pow_add]; congr 1; omega, kara, ← unhide PX, ← unhide PY] at this
    exact this)
  clear hb ho ha hn
  go_wp2_with fail
  refine (unhide CA2).mono ?_
  rintro e w13 ⟨a11, n11, c11, z11, rfl, hb, ho, ha, hn⟩
  have HF := hide (And.intro (below_on (unhide HB) hb) (And.intro (ho.mono (unhide HB).size) (And.intro ha hn)))
  clear hb ho ha hn
  go_wp2_with fail
  go_ret
  exact ⟨a11, n11, c11, z11, rfl, (unhide HF).1, (unhide HF).2.1, (unhide HF).2.2.1, (unhide HF).2.2.2⟩

set_option maxRecDepth 100000 in
set_option maxHeartbeats 8000000 in
theorem halv_step_ge (k : Nat) (IH : Hid (HalvSaid k)) (a a' : Option Addr) (n m c c' h : Nat) (xs ys : List Int) (X Y : Int) (w : World) (hx : At w a n c xs X) (hy : At w a' m c' ys Y) (hk : X + Y ≤ k + 1) (h1 : n ≤ 200000) (h2 : m ≤ 200000) (hnm : ¬ n < m) (hN : 3 ≤ n) (hh : ((n : Nat) : Int) / 2 = (h : Int)) :
    Calls Try.prog 53 #[.slice a n c, .slice a' m c'] w (Out w (X * Y)) := by
  have HX := hide hx
  have HY := hide hy
  have hh1 : 1 ≤ h := by omega
  have hh2 : h ≤ 100000 := by omega
  obtain ⟨L, HLe⟩ : ∃ L, Hid (val (xs.take h) = L) := ⟨_, hide rfl⟩
  obtain ⟨H, HHe⟩ : ∃ H, Hid (val (xs.drop h) = H) := ⟨_, hide rfl⟩
  obtain ⟨L', HLe'⟩ : ∃ L', Hid (val (ys.take h) = L') := ⟨_, hide rfl⟩
  obtain ⟨H', HHe'⟩ : ∃ H', Hid (val (ys.drop h) = H') := ⟨_, hide rfl⟩
  have PX : Hid (X = L + 65536 ^ h * H) := hide (by rw [← unhide HLe, ← unhide HHe, ← part_val, hx.nm.v])
  have PY : Hid (Y = L' + 65536 ^ h * H') := hide (by rw [← unhide HLe', ← unhide HHe', ← part_val, hy.nm.v])
  have L0 : Hid (0 ≤ L) := hide (by rw [← unhide HLe]; exact val_nonneg (okL_take hx.nm.ok h))
  have H0 : Hid (0 ≤ H) := hide (by rw [← unhide HHe]; exact val_nonneg (okL_drop hx.nm.ok h))
  have L0' : Hid (0 ≤ L') := hide (by rw [← unhide HLe']; exact val_nonneg (okL_take hy.nm.ok h))
  have H0' : Hid (0 ≤ H') := hide (by rw [← unhide HHe']; exact val_nonneg (okL_drop hy.nm.ok h))
  have HP : Hid ((65536 : Int) ≤ 65536 ^ h) := hide (by have := pow_mono hh1; simpa using this)
  have HM1 : Hid (65536 * H ≤ 65536 ^ h * H) := hide (Int.mul_le_mul_of_nonneg_right (unhide HP) (unhide H0))
  have HM2 : Hid (65536 * H' ≤ 65536 ^ h * H') := hide (Int.mul_le_mul_of_nonneg_right (unhide HP) (unhide H0'))
  have HT : Hid (0 < H + H') := hide (by
    have nx := (val_zero_iff (okL_drop hx.nm.ok h) (trim_drop hx.nm.tr h))
    have ny := (val_zero_iff (okL_drop hy.nm.ok h) (trim_drop hy.nm.tr h))
    rw [unhide HHe] at nx
    rw [unhide HHe'] at ny
    have hp := unhide H0
    have hp' := unhide H0'
    by_cases hz : H = 0
    · by_cases hz' : H' = 0
      · have e1 := congrArg List.length (nx.1 hz)
        have e2 := congrArg List.length (ny.1 hz')
        rw [List.length_drop, List.length_nil, hx.arg.len] at e1
        rw [List.length_drop, List.length_nil, hy.arg.len] at e2
        omega
      · omega
    · omega)
  have D1 : Hid (L + L' ≤ k) := hide (by have := unhide PX; have := unhide PY; have := unhide HM1; have := unhide HM2; have := unhide HT; have := unhide H0; have := unhide H0'; omega)
  have D2 : Hid (H + H' ≤ k) := hide (by have := unhide PX; have := unhide PY; have := unhide HM1; have := unhide HM2; have := unhide HT; have := unhide L0; have := unhide L0'; have := unhide H0; have := unhide H0'; omega)
  have D3 : Hid ((L + H) + (L' + H') ≤ k) := hide (by have := unhide PX; have := unhide PY; have := unhide HM1; have := unhide HM2; have := unhide HT; have := unhide H0; have := unhide H0'; omega)
  have X1 : Hid (L ≤ X ∧ H ≤ X ∧ L + H ≤ X) := hide (by have := unhide PX; have := unhide HM1; have := unhide H0; have := unhide L0; omega)
  have Y1 : Hid (L' ≤ Y ∧ H' ≤ Y ∧ L' + H' ≤ Y) := hide (by have := unhide PY; have := unhide HM2; have := unhide H0'; have := unhide L0'; omega)
  have TX := hide hx.nm
  have TY := hide hy.nm
  clear hx hy hk
  have e2 : ¬ (n : Int) ≤ 2 := by omega
  go_enter Try.func53, Try.ntmps53
  go_wp2_with fail
  refine (parts_any a n c h xs w (unhide HX).arg (by omega)).mono ?_
  rintro e w1 ⟨aL, nL, cL, aH, nH, cH, rfl, hb1, gL, gH⟩
  have AL : Hid (At w1 aL nL cL (trim (xs.take h)) L) := hide ⟨gL, by rw [← unhide HLe]; exact Nm.trimmed (okL_take (unhide TX).ok h)⟩
  have AH : Hid (At w1 aH nH cH (xs.drop h) H) := hide ⟨gH, okL_drop (unhide TX).ok h, trim_drop (unhide TX).tr h, unhide HHe⟩
  have bL : nL ≤ 200000 := Nat.le_trans ((unhide AL).le (unhide HX) (unhide X1).1) h1
  have bH : nH ≤ 200000 := Nat.le_trans ((unhide AH).le (unhide HX) (unhide X1).2.1) h1
  replace HX := hide ((unhide HX).later hb1)
  replace HY := hide ((unhide HY).later hb1)
  have HB := hide hb1
  clear hb1 gL gH
  generalize trim (xs.take h) = xL at *
  generalize xs.drop h = xH at *
  go_wp2_with fail
  refine (parts_any a' m c' h ys w1 (unhide HY).arg (by omega)).mono ?_
  rintro e w2 ⟨bL', nL', cL', bH', nH', cH', rfl, hb2, gL, gH⟩
  have BL : Hid (At w2 bL' nL' cL' (trim (ys.take h)) L') := hide ⟨gL, by rw [← unhide HLe']; exact Nm.trimmed (okL_take (unhide TY).ok h)⟩
  have BH : Hid (At w2 bH' nH' cH' (ys.drop h) H') := hide ⟨gH, okL_drop (unhide TY).ok h, trim_drop (unhide TY).tr h, unhide HHe'⟩
  have cbL : nL' ≤ 200000 := Nat.le_trans ((unhide BL).le (unhide HY) (unhide Y1).1) h2
  have cbH : nH' ≤ 200000 := Nat.le_trans ((unhide BH).le (unhide HY) (unhide Y1).2.1) h2
  replace HX := hide ((unhide HX).later hb2)
  replace HY := hide ((unhide HY).later hb2)
  replace AL := hide ((unhide AL).later hb2)
  replace AH := hide ((unhide AH).later hb2)
  replace HB := hide (below_on (unhide HB) hb2)
  clear hb2 gL gH
  generalize trim (ys.take h) = yL at *
  generalize ys.drop h = yH at *
  go_wp2_with fail
  refine (unhide IH _ _ _ _ _ _ _ _ _ _ w2 (unhide AL) (unhide BL) (unhide D1) bL cbL).mono ?_
  rintro e w3 ⟨a1, n1, c1, z1, rfl, hb, ho, ha, hn⟩
  have LO : Hid (At w3 a1 n1 c1 z1 (L * L')) := hide ⟨ha, hn⟩
  replace HX := hide ((unhide HX).later hb)
  replace HY := hide ((unhide HY).later hb)
  replace AL := hide ((unhide AL).later hb)
  replace AH := hide ((unhide AH).later hb)
  replace BL := hide ((unhide BL).later hb)
  replace BH := hide ((unhide BH).later hb)
  replace HB := hide (below_on (unhide HB) hb)
  clear hb ho ha hn
  go_wp2_with fail
  refine (unhide IH _ _ _ _ _ _ _ _ _ _ w3 (unhide AH) (unhide BH) (unhide D2) bH cbH).mono ?_
  rintro e w4 ⟨a2, n2, c2, z2, rfl, hb, ho, ha, hn⟩
  have HI : Hid (At w4 a2 n2 c2 z2 (H * H')) := hide ⟨ha, hn⟩
  replace HX := hide ((unhide HX).later hb)
  replace HY := hide ((unhide HY).later hb)
  replace AL := hide ((unhide AL).later hb)
  replace AH := hide ((unhide AH).later hb)
  replace BL := hide ((unhide BL).later hb)
  replace BH := hide ((unhide BH).later hb)
  replace LO := hide ((unhide LO).later hb)
  replace HB := hide (below_on (unhide HB) hb)
  clear hb ho ha hn
  have CA : Hid (Calls Try.prog 85 #[.slice aL nL cL, .slice aH nH cH] w4 (Out w4 (L + H))) := hide (by have := addI_any aL aH nL nH cL cH xL xH w4 (unhide AL).arg (unhide AH).arg (unhide AL).nm.ok (unhide AH).nm.ok (by omega) (by omega); rw [(unhide AL).nm.v, (unhide AH).nm.v] at this; exact this)
  go_wp2_with fail
  refine (unhide CA).mono ?_
  rintro e w5 ⟨a3, n3, c3, z3, rfl, hb, ho, ha, hn⟩
  have SA : Hid (At w5 a3 n3 c3 z3 (L + H)) := hide ⟨ha, hn⟩
  clear CA
  replace HX := hide ((unhide HX).later hb)
  replace HY := hide ((unhide HY).later hb)
  replace AL := hide ((unhide AL).later hb)
  replace AH := hide ((unhide AH).later hb)
  replace BL := hide ((unhide BL).later hb)
  replace BH := hide ((unhide BH).later hb)
  replace LO := hide ((unhide LO).later hb)
  replace HI := hide ((unhide HI).later hb)
  replace HB := hide (below_on (unhide HB) hb)
  clear hb ho ha hn
  have CB : Hid (Calls Try.prog 85 #[.slice bL' nL' cL', .slice bH' nH' cH'] w5 (Out w5 (L' + H'))) := hide (by have := addI_any bL' bH' nL' nH' cL' cH' yL yH w5 (unhide BL).arg (unhide BH).arg (unhide BL).nm.ok (unhide BH).nm.ok (by omega) (by omega); rw [(unhide BL).nm.v, (unhide BH).nm.v] at this; exact this)
  go_wp2_with fail
  refine (unhide CB).mono ?_
  rintro e w6 ⟨a4, n4, c4, z4, rfl, hb, ho, ha, hn⟩
  have SB : Hid (At w6 a4 n4 c4 z4 (L' + H')) := hide ⟨ha, hn⟩
  clear CB
  replace HX := hide ((unhide HX).later hb)
  replace HY := hide ((unhide HY).later hb)
  replace AL := hide ((unhide AL).later hb)
  replace AH := hide ((unhide AH).later hb)
  replace BL := hide ((unhide BL).later hb)
  replace BH := hide ((unhide BH).later hb)
  replace LO := hide ((unhide LO).later hb)
  replace HI := hide ((unhide HI).later hb)
  replace SA := hide ((unhide SA).later hb)
  replace HB := hide (below_on (unhide HB) hb)
  clear hb ho ha hn
  have b3 : n3 ≤ 200000 := Nat.le_trans ((unhide SA).le (unhide HX) (unhide X1).2.2) h1
  have b4 : n4 ≤ 200000 := Nat.le_trans ((unhide SB).le (unhide HY) (unhide Y1).2.2) h2
  go_wp2_with fail
  refine (unhide IH _ _ _ _ _ _ _ _ _ _ w6 (unhide SA) (unhide SB) (unhide D3) b3 b4).mono ?_
  rintro e w7 ⟨a5, n5, c5, z5, rfl, hb, ho, ha, hn⟩
  have BO : Hid (At w7 a5 n5 c5 z5 ((L + H) * (L' + H'))) := hide ⟨ha, hn⟩
  replace LO := hide ((unhide LO).later hb)
  replace HI := hide ((unhide HI).later hb)
  replace HB := hide (below_on (unhide HB) hb)
  clear hb ho ha hn
  have b5 : n5 ≤ 400000 := by have := len_mul (unhide SA) (unhide SB) (unhide BO); omega
  have ML := hide (mid_le (unhide L0) (unhide H0) (unhide L0') (unhide H0'))
  have CS1 : Hid (Calls Try.prog 86 #[.slice a5 n5 c5, .slice a1 n1 c1] w7 (Out w7 ((L + H) * (L' + H') - L * L'))) := hide (by have := subI_any a5 a1 n5 n1 c5 c1 z5 z1 w7 (unhide BO).arg (unhide LO).arg (unhide BO).nm.ok (unhide LO).nm.ok (by omega) ((unhide LO).le (unhide BO) (unhide ML).1) (by rw [(unhide BO).nm.v, (unhide LO).nm.v]; exact (unhide ML).1); rw [(unhide BO).nm.v, (unhide LO).nm.v] at this; exact this)
  go_wp2_with fail
  refine (unhide CS1).mono ?_
  rintro e w8 ⟨a6, n6, c6, z6, rfl, hb, ho, ha, hn⟩
  have S1 : Hid (At w8 a6 n6 c6 z6 ((L + H) * (L' + H') - L * L')) := hide ⟨ha, hn⟩
  clear CS1
  replace LO := hide ((unhide LO).later hb)
  replace HI := hide ((unhide HI).later hb)
  replace BO := hide ((unhide BO).later hb)
  replace HB := hide (below_on (unhide HB) hb)
  have LL0 : Hid (0 ≤ L * L') := hide (Int.mul_nonneg (unhide L0) (unhide L0'))
  have HH0 : Hid (0 ≤ H * H') := hide (Int.mul_nonneg (unhide H0) (unhide H0'))
  have b6 : n6 ≤ 400000 := Nat.le_trans ((unhide S1).le (unhide BO) (by have := unhide LL0; omega)) b5
  clear hb ho ha hn
  have CS2 : Hid (Calls Try.prog 86 #[.slice a6 n6 c6, .slice a2 n2 c2] w8 (Out w8 ((L + H) * (L' + H') - L * L' - H * H'))) := hide (by have := subI_any a6 a2 n6 n2 c6 c2 z6 z2 w8 (unhide S1).arg (unhide HI).arg (unhide S1).nm.ok (unhide HI).nm.ok (by omega) ((unhide HI).le (unhide S1) (unhide ML).2) (by rw [(unhide S1).nm.v, (unhide HI).nm.v]; exact (unhide ML).2); rw [(unhide S1).nm.v, (unhide HI).nm.v] at this; exact this)
  go_wp2_with fail
  refine (unhide CS2).mono ?_
  rintro e w9 ⟨a7, n7, c7, z7, rfl, hb, ho, ha, hn⟩
  have MI : Hid (At w9 a7 n7 c7 z7 ((L + H) * (L' + H') - L * L' - H * H')) := hide ⟨ha, hn⟩
  clear CS2
  replace LO := hide ((unhide LO).later hb)
  replace HI := hide ((unhide HI).later hb)
  replace S1 := hide ((unhide S1).later hb)
  replace HB := hide (below_on (unhide HB) hb)
  have b7 : n7 ≤ 400000 := Nat.le_trans ((unhide MI).le (unhide S1) (by have := unhide HH0; omega)) b6
  have b2 : n2 ≤ 400000 := by have := len_mul (unhide AH) (unhide BH) (unhide HI); omega
  have b1 : n1 ≤ 400000 := by have := len_mul (unhide AL) (unhide BL) (unhide LO); omega
  clear hb ho ha hn
  go_wp2_with fail
  refine (shiftI_any' a7 n7 c7 _ h rfl z7 w9 (unhide MI).arg (unhide MI).nm.ok (by omega) (by omega)).mono ?_
  rintro e w10 ⟨a8, n8, c8, z8, rfl, hb, ho, ha, hk8, hv8, hl8⟩
  have M8 := hide (And.intro ha (And.intro hk8 hv8))
  have b8 : n8 ≤ 600000 := by rw [← ha.len]; omega
  replace LO := hide ((unhide LO).later hb)
  replace HI := hide ((unhide HI).later hb)
  replace MI := hide ((unhide MI).later hb)
  replace HB := hide (below_on (unhide HB) hb)
  clear hb ho ha hk8 hv8 hl8
  go_wp2_with fail
  refine (shiftI_any' a2 n2 c2 _ (2 * h) (by omega) z2 w10 (unhide HI).arg (unhide HI).nm.ok (by omega) (by omega)).mono ?_
  rintro e w11 ⟨a9, n9, c9, z9, rfl, hb, ho, ha, hk9, hv9, hl9⟩
  have b9 : n9 ≤ 600000 := by rw [← ha.len]; omega
  have A8 := hide ((unhide M8).1.later hb)
  replace LO := hide ((unhide LO).later hb)
  replace HB := hide (below_on (unhide HB) hb)
  have CA1 := hide (addI_any a8 a9 n8 n9 c8 c9 z8 z9 w11 (unhide A8) ha (unhide M8).2.1 hk9 (by omega) (by omega))
  have HV9 := hide hv9
  have K9 := hide hk9
  have L9 := hide ha.len
  clear hb ho ha hk9 hv9 hl9
  go_wp2_with fail
  refine (unhide CA1).mono ?_
  rintro e w12 ⟨a10, n10, c10, z10, rfl, hb, ho, ha, hn⟩
  have b10 : n10 ≤ 600001 := by rw [← ha.len]; exact add_len2 hn (unhide M8).2.1 (unhide K9) (by rw [(unhide A8).len]; exact b8) (by rw [unhide L9]; exact b9)
  replace LO := hide ((unhide LO).later hb)
  replace HB := hide (below_on (unhide HB) hb)
  have CA2 : Hid (Calls Try.prog 85 #[.slice a1 n1 c1, .slice a10 n10 c10] w12 (Out w12 (X * Y))) := hide (by
    have := addI_any a1 a10 n1 n10 c1 c10 z1 z10 w12 (unhide LO).arg ha (unhide LO).nm.ok hn.ok (by omega) (by omega)
    rw [(unhide LO).nm.v, hn.v, (unhide M8).2.2, unhide HV9, (unhide MI).nm.v, (unhide HI).nm.v] at this
    rw [show (65536 : Int) ^ (2 * h) = 65536 ^ h * 65536 ^ h by rw [← Int.pow_add]; congr 1; omega, kara, ← unhide PX, ← unhide PY] at this
    exact this)
  clear hb ho ha hn
  go_wp2_with fail
  refine (unhide CA2).mono ?_
  rintro e w13 ⟨a11, n11, c11, z11, rfl, hb, ho, ha, hn⟩
  have HF := hide (And.intro (below_on (unhide HB) hb) (And.intro (ho.mono (unhide HB).size) (And.intro ha hn)))
  clear hb ho ha hn
  go_wp2_with fail
  go_ret
  exact ⟨a11, n11, c11, z11, rfl, (unhide HF).1, (unhide HF).2.1, (unhide HF).2.2.1, (unhide HF).2.2.2⟩

theorem halvesI (k : Nat) : HalvSaid k := by
  induction k with
  | zero =>
    intro a a' n m c c' xs ys X Y w hx hy hk h1 h2
    have x0 := hx.nm.nonneg
    have y0 := hy.nm.nonneg
    have ex : xs = [] := hx.nm.nil_iff.2 (by omega)
    have ey : ys = [] := hy.nm.nil_iff.2 (by omega)
    have lx := hx.arg.len
    have ly := hy.arg.len
    rw [ex] at lx
    rw [ey] at ly
    simp only [List.length_nil] at lx ly
    exact halv_small a a' n m c c' xs ys X Y w hx hy (by omega) (by omega)
  | succ k ih =>
    intro a a' n m c c' xs ys X Y w hx hy hk h1 h2
    by_cases hs : n ≤ 2 ∧ m ≤ 2
    · exact halv_small a a' n m c c' xs ys X Y w hx hy hs.1 hs.2
    · by_cases hnm : n < m
      · exact halv_step_lt k (hide ih) a a' n m c c' (m / 2) xs ys X Y w hx hy (by omega) h1 h2 hnm (by omega) (by omega)
      · exact halv_step_ge k (hide ih) a a' n m c c' (n / 2) xs ys X Y w hx hy (by omega) h1 h2 hnm (by omega) (by omega)
end Go.Proofs.Ytifiphoapjjhiaa

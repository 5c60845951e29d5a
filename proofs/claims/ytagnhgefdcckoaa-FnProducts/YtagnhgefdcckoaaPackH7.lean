/- HalvesMul: the program's and the specification's, at every two numbers: they answer the product, where both are good and it fits. No condition beyond those typed. Written by mkhalvb.py. -/
import Derived.Test.YtagnhgefdcckoaaBigOfI
import Derived.Test.YtagnhgefdcckoaaDrop
import Derived.Test.YtagnhgefdcckoaaPackM7
namespace Go.Proofs.Ytagnhgefdcckoaa
open Go.RowKit
set_option linter.unusedVariables false
set_option maxRecDepth 100000
set_option linter.unusedSimpArgs false

def intOk (g : Bool) (xs : List Int) : Bool := goodB g xs && decide (val xs ≤ 4611686018427387904)
def intV (g : Bool) (xs : List Int) : Int := if intOk g xs then sv g xs else 0
theorem below_one' {w w1 : World} {o : Obj} (h : Below (w.alloc o).heap.size (w.alloc o) w1) : Below w.heap.size w w1 := ((Below.refl _ _).alloc (Nat.le_refl _) o).trans (h.mono (by simp))

theorem or_comm64 (a b : Int) : bits .or .u64 a b = bits .or .u64 b a := by simp only [bits, BitVec.or_comm]
theorem wraps64 (n : Int) (h₀ : 0 ≤ n) (h₁ : n < 2 ^ 64) : IntKind.u64.wrap n = n := by rw [IntKind.wrap_u64]; omega
theorem or_join (k : Nat) (F x : Int) (hk : k ≤ 3) (h0 : 0 ≤ F) (h1 : F < 65536 ^ k) (hx0 : 0 ≤ x) (hx1 : x ≤ 65535) :
    bits .or .u64 F (IntKind.u64.wrap (x * 2 ^ (k * 16))) = F + 65536 ^ k * x := by
  rcases (show k = 0 ∨ k = 1 ∨ k = 2 ∨ k = 3 from by omega) with rfl | rfl | rfl | rfl
  · have e : x * 2 ^ (0 * 16) = x := by simp
    rw [e, wraps64 x hx0 (by omega), or_comm64, bits_join .u64 64 (by decide) wraps64 0 x F hx0 (by simp) (by omega) h0 (by simpa using h1) (by simp at h1; omega)]
    simp; omega
  · have e : x * 2 ^ (1 * 16) = x * 65536 := by simp
    have h1' : F < 65536 := by simpa using h1
    rw [e, wraps64 (x * 65536) (by omega) (by omega), or_comm64, bits_join .u64 64 (by decide) wraps64 16 (x * 65536) F (by omega) (by omega) (by omega) h0 (by omega) (by omega)]
    simp; omega
  · have e : x * 2 ^ (2 * 16) = x * 4294967296 := by simp
    have h1' : F < 4294967296 := by simpa using h1
    rw [e, wraps64 (x * 4294967296) (by omega) (by omega), or_comm64, bits_join .u64 64 (by decide) wraps64 32 (x * 4294967296) F (by omega) (by omega) (by omega) h0 (by omega) (by omega)]
    simp; omega
  · have e : x * 2 ^ (3 * 16) = x * 281474976710656 := by simp
    have h1' : F < 281474976710656 := by simpa using h1
    rw [e, wraps64 (x * 281474976710656) (by omega) (by omega), or_comm64, bits_join .u64 64 (by decide) wraps64 48 (x * 281474976710656) F (by omega) (by omega) (by omega) h0 (by omega) (by omega)]
    simp; omega
theorem int_long {g : Bool} {xs : List Int} (hg : goodB g xs = true) (h : 4 < xs.length) : intOk g xs = false := by
  obtain ⟨h1, h2, _, _⟩ := good_parts hg
  have h3 := top_le h1 h2 (by omega)
  have h4 := pow_mono (show 4 ≤ xs.length - 1 by omega)
  have h5 : (65536 : Int) ^ 4 = 18446744073709551616 := by decide
  have h6 : ¬ val xs ≤ 4611686018427387904 := by omega
  simp [intOk, h6]
theorem int_bad {g : Bool} {xs : List Int} (hg : goodB g xs = false) : intOk g xs = false := by simp [intOk, hg]
theorem int_great {g : Bool} {xs : List Int} (h : 4611686018427387904 < val xs) : intOk g xs = false := by
  have h6 : ¬ val xs ≤ 4611686018427387904 := by omega
  simp [intOk, h6]
theorem int_fits {g : Bool} {xs : List Int} (hg : goodB g xs = true) (h : val xs ≤ 4611686018427387904) : intOk g xs = true := by simp [intOk, hg, h]
theorem ret_pair {v : Int} {b : Bool} {v' : Int} {b' : Bool} (h1 : v = v') (h2 : b = b') : Ending.returned (.tuple #[.int .i64 v, .bool b]) = .returned (.tuple #[.int .i64 v', .bool b']) := by rw [h1, h2]
theorem int_no {g : Bool} {xs : List Int} (h : intOk g xs = false) : intV g xs = 0 := by simp [intV, h]
theorem int_yes {g : Bool} {xs : List Int} (h : intOk g xs = true) : intV g xs = sv g xs := by simp [intV, h]

set_option maxHeartbeats 4000000 in
theorem intI_loop (g : Bool) (a : Option Addr) (n c : Nat) (xs : List Int) (w : World) (hx : Arg w a n c xs) (hg : goodB g xs = true) (hn4 : n ≤ 4) :
    Calls Try.prog 21 #[.agg #[.bool g, .slice a n c]] w fun e w' => e = .returned (.tuple #[.int .i64 (intV g xs), .bool (intOk g xs)]) ∧ Below w.heap.size w w' := by
  have HX := hide hx
  have HG := hide hg
  have ox := (good_parts hg).1
  clear hx
  have d1 : ¬ ((64 : Int) < (n : Int) * 16) := by omega
  go_enter Try.func21, Try.ntmps21
  go_wp2_with fail
  refine (goodI_any g a n c xs _ ((unhide HX).later ((Below.refl _ _).alloc (Nat.le_refl _) _)).sl (unhide HX).len (Nat.le_trans (unhide HX).cap (unhide HX).top)).mono ?_
  rintro e w1 ⟨rfl, hb1⟩
  have x0 : w1.cell? ⟨w.heap.size, 0, none⟩ = some (.bool g) := cell_later hb1 (by simp [go_sem])
  have x1 : w1.cell? ⟨w.heap.size, 1, none⟩ = some (.slice a n c) := cell_later hb1 (by simp [go_sem])
  have HB := hide (below_one' hb1)
  clear hb1
  rw [hg]
  clear hg
  go_wp2
  go_loop [4, 20] (fun fv iv => ∃ (k : Nat) (F : Int), k ≤ n ∧ iv = .int .i64 k ∧ fv = .int .u64 F ∧ Hid (F = val (xs.take k))) (fun _ iv => n - (intOf iv).toNat)
  case atStart => exact ⟨0, 0, Nat.zero_le _, rfl, rfl, hide (by simp [val])⟩
  case round =>
    obtain ⟨k, F, hk, rfl, rfl, HF⟩ := hrel
    by_cases hlt : k < n
    · obtain ⟨b, off, rfl, hcx⟩ := ((unhide HX).sl.later (Nat.le_refl _) (unhide HB)).at (k := k) (by rw [(unhide HX).len]; exact hlt)
      have hxb := okL_get ox k
      have HV := hide (val_take_succ xs k)
      generalize xs.getD k 0 = x at *
      obtain ⟨hx0, hx1⟩ := hxb
      have hlt' : (k : Int) < (n : Int) := by omega
      have HF0 := hide (show 0 ≤ F by rw [unhide HF]; exact val_nonneg (okL_take ox k))
      have HF1 := hide (show F < 65536 ^ k by
        rw [unhide HF]
        have h1 := val_lt (okL_take ox k)
        rw [List.length_take, Nat.min_eq_left (by rw [(unhide HX).len]; omega)] at h1
        exact h1)
      have HJ := hide (or_join k F x (by omega) (unhide HF0) (unhide HF1) hx0 hx1)
      go_wp2
      go_round
      case rel => exact ⟨k + 1, _, by omega, by go_num, rfl, hide (by rw [unhide HJ, unhide HV, unhide HF])⟩
      case measure => simp [intOf]; omega
    · obtain rfl : k = n := by omega
      have HT := hide (List.take_of_length_le (l := xs) (i := k) (by rw [(unhide HX).len]; exact Nat.le_refl _))
      have HFv : Hid (F = val xs) := hide (by rw [unhide HF, unhide HT])
      have F0 : 0 ≤ F := by rw [unhide HFv]; exact val_nonneg ox
      by_cases hbig : 4611686018427387904 < F
      · go_wp2
        go_ret2
        have h2 := int_great (g := g) (xs := xs) (by rw [← unhide HFv]; exact hbig)
        exact ⟨ret_pair (int_no h2).symm h2.symm, unhide HB⟩
      · have h2 := hide (int_fits (unhide HG) (by rw [← unhide HFv]; omega))
        cases g
        · go_wp2
          go_ret2
          exact ⟨ret_pair (by rw [int_yes (unhide h2), unhide HFv]; rfl) (unhide h2).symm, unhide HB⟩
        · go_wp2
          go_ret2
          exact ⟨ret_pair (by rw [int_yes (unhide h2), unhide HFv]; rfl) (unhide h2).symm, unhide HB⟩

set_option maxHeartbeats 4000000 in
theorem intI_any (g : Bool) (a : Option Addr) (n c : Nat) (xs : List Int) (w : World) (hx : Arg w a n c xs) (h1 : n ≤ 1048576) :
    Calls Try.prog 21 #[.agg #[.bool g, .slice a n c]] w fun e w' => e = .returned (.tuple #[.int .i64 (intV g xs), .bool (intOk g xs)]) ∧ Below w.heap.size w w' := by
  cases hg : goodB g xs
  · have h2 := int_bad hg
    rw [int_no h2, h2]
    have HX := hide hx
    clear hx h2
    go_enter Try.func21, Try.ntmps21
    go_wp2_with fail
    refine (goodI_any g a n c xs _ ((unhide HX).later ((Below.refl _ _).alloc (Nat.le_refl _) _)).sl (unhide HX).len (Nat.le_trans (unhide HX).cap (unhide HX).top)).mono ?_
    rintro e w1 ⟨rfl, hb1⟩
    rw [hg]
    have HB := hide (below_one' hb1)
    clear hb1 hg
    go_wp2
    go_ret2
    exact ⟨rfl, unhide HB⟩
  · by_cases h4 : n ≤ 4
    · exact intI_loop g a n c xs w hx hg h4
    · have h2 := int_long hg (by rw [hx.len]; omega)
      rw [int_no h2, h2]
      have HX := hide hx
      clear hx h2
      have d1 : (64 : Int) < (n : Int) * 16 := by omega
      go_enter Try.func21, Try.ntmps21
      go_wp2_with fail
      refine (goodI_any g a n c xs _ ((unhide HX).later ((Below.refl _ _).alloc (Nat.le_refl _) _)).sl (unhide HX).len (Nat.le_trans (unhide HX).cap (unhide HX).top)).mono ?_
      rintro e w1 ⟨rfl, hb1⟩
      rw [hg]
      have x1 : w1.cell? ⟨w.heap.size, 1, none⟩ = some (.slice a n c) := cell_later hb1 (by simp [go_sem])
      have HB := hide (below_one' hb1)
      clear hb1 hg
      go_wp2
      go_ret2
      exact ⟨rfl, unhide HB⟩
end Go.Proofs.Ytagnhgefdcckoaa
namespace Go.Proofs.Ytagnhgefdcckoaa
open Go.RowKit
set_option linter.unusedVariables false
set_option maxRecDepth 100000
set_option linter.unusedSimpArgs false

theorem trim_drop {xs : List Int} (h : trim xs = xs) (k : Nat) : trim (xs.drop k) = xs.drop k := by
  induction xs generalizing k with
  | nil => simp [trim]
  | cons x xs ih =>
    cases k with
    | zero => simpa using h
    | succ k =>
      have h' : (if trim xs = [] ∧ x = 0 then [] else x :: trim xs) = x :: xs := h
      split at h'
      · cases h'
      · exact ih (by simpa using h') k
theorem part_val (xs : List Int) (k : Nat) : val xs = val (xs.take k) + 65536 ^ k * val (xs.drop k) := by
  by_cases h : k ≤ xs.length
  · have := val_drop xs k
    rwa [List.length_take, Nat.min_eq_left h] at this
  · rw [List.drop_of_length_le (by omega), List.take_of_length_le (by omega)]
    simp [val]
theorem kara (L H L' H' P : Int) : L * L' + (P * ((L + H) * (L' + H') - L * L' - H * H') + P * P * (H * H')) = (L + P * H) * (L' + P * H') := by
  simp only [Int.mul_add, Int.add_mul, Int.mul_sub, Int.mul_assoc, Int.mul_comm, Int.mul_left_comm]
  omega

/-- The slice reads the limbs of V. -/
structure At (w : World) (a : Option Addr) (n c : Nat) (zs : List Int) (V : Int) : Prop where
  arg : Arg w a n c zs
  nm : Nm zs V
theorem At.later {w w' : World} {a : Option Addr} {n c : Nat} {zs : List Int} {V : Int} (h : At w a n c zs V) (hb : Below w.heap.size w w') : At w' a n c zs V := ⟨h.arg.later hb, h.nm⟩
theorem At.le {w w' : World} {a a' : Option Addr} {n n' c c' : Nat} {zs zs' : List Int} {V V' : Int} (h : At w a n c zs V) (k : At w' a' n' c' zs' V') (hV : V ≤ V') : n ≤ n' := by
  rw [← h.arg.len, ← k.arg.len]
  exact len_of_val k.nm.ok h.nm.ok h.nm.tr (by rw [h.nm.v, k.nm.v]; exact hV)

theorem parts_any (a : Option Addr) (n c h : Nat) (xs : List Int) (w : World) (hx : Arg w a n c xs) (hh : h ≤ 1000000) :
    Calls Try.prog 99 #[.slice a n c, .int .i64 h] w fun e w' => ∃ a1 n1 c1 a2 n2 c2, e = .returned (.tuple #[.slice a1 n1 c1, .slice a2 n2 c2]) ∧ Below w.heap.size w w' ∧ Arg w' a1 n1 c1 (trim (xs.take h)) ∧ Arg w' a2 n2 c2 (xs.drop h) := by
  rcases hx.addr with ⟨rfl, rfl⟩ | ⟨b, off, rfl⟩
  · have h0 : n = 0 := by have := hx.cap; omega
    subst h0
    obtain rfl := List.length_eq_zero_iff.1 hx.len
    refine (parts_none h w hh).mono ?_
    rintro e w' ⟨rfl, hb⟩
    exact ⟨_, _, _, _, _, _, rfl, hb, by simpa [trim] using Arg.none w', by simpa using Arg.none w'⟩
  · by_cases hle : h ≤ n
    · refine (parts_le b off n c h xs w hx.sl hx.len hx.cap hx.top hle).mono ?_
      rintro e w' ⟨a1, n1, c1, a2, c2, rfl, hb, h1, h2⟩
      exact ⟨_, _, _, _, _, _, rfl, hb, h1, h2⟩
    · refine (parts_gt b off n c h xs w hx.sl hx.len hx.cap hx.top (by omega) hh).mono ?_
      rintro e w' ⟨a1, n1, c1, a2, c2, rfl, hb, h1, h2⟩
      refine ⟨_, _, _, _, _, _, rfl, hb, ?_, ?_⟩
      · rw [List.take_of_length_le (by rw [hx.len]; omega)]; exact h1
      · rw [List.drop_of_length_le (by rw [hx.len]; omega)]; exact h2
theorem shiftI_any' (a : Option Addr) (n c : Nat) (B : Int) (b : Nat) (hB : B = b) (xs : List Int) (w : World) (hx : Arg w a n c xs) (ox : okL xs) (h1 : n ≤ 500000) (hb : b ≤ 500000) :
    Calls Try.prog 102 #[.slice a n c, .int .i64 B] w (OutU w (65536 ^ b * val xs) (b + n)) := by subst hB; exact shiftI_any a n c b xs w hx ox h1 hb

def HalvSaid (k : Nat) : Prop := ∀ (a a' : Option Addr) (n m c c' : Nat) (xs ys : List Int) (X Y : Int) (w : World), At w a n c xs X → At w a' m c' ys Y → X + Y ≤ k → n ≤ 200000 → m ≤ 200000 →
  Calls Try.prog 52 #[.slice a n c, .slice a' m c'] w (Out w (X * Y))

set_option maxHeartbeats 4000000 in
theorem halv_small (a a' : Option Addr) (n m c c' : Nat) (xs ys : List Int) (X Y : Int) (w : World) (hx : At w a n c xs X) (hy : At w a' m c' ys Y) (h1 : n ≤ 2) (h2 : m ≤ 2) :
    Calls Try.prog 52 #[.slice a n c, .slice a' m c'] w (Out w (X * Y)) := by
  have HX := hide hx
  have HY := hide hy
  clear hx hy
  have CM : Hid (Calls Try.prog 97 #[.slice a n c, .slice a' m c'] w (Out w (X * Y))) := hide (by
    have := mulI_any a a' n m c c' xs ys w (unhide HX).arg (unhide HY).arg (unhide HX).nm.ok (unhide HY).nm.ok (by omega) (by omega)
    rw [(unhide HX).nm.v, (unhide HY).nm.v] at this
    exact this)
  by_cases hnm : n < m
  · have e2 : (m : Int) ≤ 2 := by omega
    go_enter Try.func52, Try.ntmps52
    go_wp2_with fail
    refine (unhide CM).mono ?_
    rintro e w1 ⟨a1, n1, c1, zs, rfl, hb1, ho1, ha1, hn1⟩
    have HF := hide (And.intro hb1 (And.intro ho1 (And.intro ha1 hn1)))
    clear hb1 ho1 ha1 hn1 CM
    go_wp2_with fail
    go_ret
    exact ⟨a1, n1, c1, zs, rfl, (unhide HF).1, (unhide HF).2.1, (unhide HF).2.2.1, (unhide HF).2.2.2⟩
  · have e2 : (n : Int) ≤ 2 := by omega
    go_enter Try.func52, Try.ntmps52
    go_wp2_with fail
    refine (unhide CM).mono ?_
    rintro e w1 ⟨a1, n1, c1, zs, rfl, hb1, ho1, ha1, hn1⟩
    have HF := hide (And.intro hb1 (And.intro ho1 (And.intro ha1 hn1)))
    clear hb1 ho1 ha1 hn1 CM
    go_wp2_with fail
    go_ret
    exact ⟨a1, n1, c1, zs, rfl, (unhide HF).1, (unhide HF).2.1, (unhide HF).2.2.1, (unhide HF).2.2.2⟩

theorem len_mul {w w' w'' : World} {a a' a'' : Option Addr} {n n' n'' c c' c'' : Nat} {zs zs' zs'' : List Int} {U V : Int} (h : At w a n c zs U) (k : At w' a' n' c' zs' V) (q : At w'' a'' n'' c'' zs'' (U * V)) : n'' ≤ n + n' := by
  have h1 := val_lt h.nm.ok
  have h2 := val_lt k.nm.ok
  rw [h.nm.v, h.arg.len] at h1
  rw [k.nm.v, k.arg.len] at h2
  by_cases h0 : n'' = 0
  · omega
  have h3 := top_le q.nm.ok q.nm.tr (by rw [q.arg.len]; omega)
  rw [q.nm.v, q.arg.len] at h3
  by_cases hl : n'' ≤ n + n'
  · exact hl
  · have p1 := h.nm.nonneg
    have p2 := k.nm.nonneg
    have pk : (0 : Int) < 65536 ^ n' := Int.pow_pos (by omega)
    have pn : (0 : Int) < 65536 ^ n := Int.pow_pos (by omega)
    have h4 : U * V ≤ U * 65536 ^ n' := Int.mul_le_mul_of_nonneg_left (by omega) p1
    have h5 : U * 65536 ^ n' < 65536 ^ n * 65536 ^ n' := Int.mul_lt_mul_of_pos_right h1 pk
    rw [← Int.pow_add] at h5
    have h6 := pow_mono (show n + n' ≤ n'' - 1 by omega)
    omega
theorem add_len2 {zs us vs : List Int} {N : Nat} (h : Nm zs (val us + val vs)) (ou : okL us) (ov : okL vs) (hu : us.length ≤ N) (hv : vs.length ≤ N) : zs.length ≤ N + 1 := by
  by_cases hl : zs.length ≤ N + 1
  · exact hl
  · have q1 := top_le h.ok h.tr (by omega)
    rw [h.v] at q1
    have q2 := val_lt ou
    have q3 := val_lt ov
    have q4 := pow_mono hu
    have q5 := pow_mono hv
    have q6 := pow_mono (show N + 1 ≤ zs.length - 1 by omega)
    rw [Int.pow_succ] at q6
    have q7 : (0 : Int) < 65536 ^ N := Int.pow_pos (by omega)
    omega

theorem mid_le {L H L' H' : Int} (l : 0 ≤ L) (h : 0 ≤ H) (l' : 0 ≤ L') (h' : 0 ≤ H') : L * L' ≤ (L + H) * (L' + H') ∧ H * H' ≤ (L + H) * (L' + H') - L * L' := by
  have e : (L + H) * (L' + H') = L * L' + H * L' + (L * H' + H * H') := by simp only [Int.mul_add, Int.add_mul]
  have p1 := Int.mul_nonneg l h'
  have p2 := Int.mul_nonneg h l'
  have p3 := Int.mul_nonneg h h'
  omega

set_option maxRecDepth 100000 in
set_option maxHeartbeats 8000000 in
theorem halv_step_lt (k : Nat) (IH : Hid (HalvSaid k)) (a a' : Option Addr) (n m c c' h : Nat) (xs ys : List Int) (X Y : Int) (w : World) (hx : At w a n c xs X) (hy : At w a' m c' ys Y) (hk : X + Y ≤ k + 1) (h1 : n ≤ 200000) (h2 : m ≤ 200000) (hnm : n < m) (hN : 3 ≤ m) (hh : ((m : Nat) : Int) / 2 = (h : Int)) :
    Calls Try.prog 52 #[.slice a n c, .slice a' m c'] w (Out w (X * Y)) := by
  have HX := hide hx
  have HY := hide hy
  have hh1 : 1 ≤ h := by omega
  have hh2 : h ≤ 100000 := by omega
  obtain ⟨L, HLe⟩ : ∃ L, Hid (val (xs.take h) = L) := ⟨_, hide rfl⟩
  obtain ⟨H, HHe⟩ : ∃ H, Hid (val (xs.drop h) = H) := ⟨_, hide rfl⟩
  obtain ⟨L', HLe'⟩ : ∃ L', Hid (val (ys.take h) = L') := ⟨_, hide rfl⟩
  obtain ⟨H', HHe'⟩ : ∃ H', Hid (val (ys.drop h) = H') := ⟨_, hide rfl⟩
  have PX : Hid (X = L + 65536 ^ h * H) := hide (by rw [← unhide HLe, ← unhide HHe, ← part_val, hx.nm.v])
  have PY : Hid (Y = L' + 65536 ^ h * H') := hide (by rw [← unhide HLe', ← unhide HHe', ← part_val, hy.nm.v])
  have L0 : Hid (0 ≤ L) := hide (by rw [← unhide HLe]; exact val_nonneg (okL_take hx.nm.ok h))
  have H0 : Hid (0 ≤ H) := hide (by rw [← unhide HHe]; exact val_nonneg (okL_drop hx.nm.ok h))
  have L0' : Hid (0 ≤ L') := hide (by rw [← unhide HLe']; exact val_nonneg (okL_take hy.nm.ok h))
  have H0' : Hid (0 ≤ H') := hide (by rw [← unhide HHe']; exact val_nonneg (okL_drop hy.nm.ok h))
  have HP : Hid ((65536 : Int) ≤ 65536 ^ h) := hide (by have := pow_mono hh1; simpa using this)
  have HM1 : Hid (65536 * H ≤ 65536 ^ h * H) := hide (Int.mul_le_mul_of_nonneg_right (unhide HP) (unhide H0))
  have HM2 : Hid (65536 * H' ≤ 65536 ^ h * H') := hide (Int.mul_le_mul_of_nonneg_right (unhide HP) (unhide H0'))
  have HT : Hid (0 < H + H') := hide (by
    have nx := (val_zero_iff (okL_drop hx.nm.ok h) (trim_drop hx.nm.tr h))
    have ny := (val_zero_iff (okL_drop hy.nm.ok h) (trim_drop hy.nm.tr h))
    rw [unhide HHe] at nx
    rw [unhide HHe'] at ny
    have hp := unhide H0
    have hp' := unhide H0'
    by_cases hz : H = 0
    · by_cases hz' : H' = 0
      · have e1 := congrArg List.length (nx.1 hz)
        have e2 := congrArg List.length (ny.1 hz')
        rw [List.length_drop, List.length_nil, hx.arg.len] at e1
        rw [List.length_drop, List.length_nil, hy.arg.len] at e2
        omega
      · omega
    · omega)
  have D1 : Hid (L + L' ≤ k) := hide (by have := unhide PX; have := unhide PY; have := unhide HM1; have := unhide HM2; have := unhide HT; have := unhide H0; have := unhide H0'; omega)
  have D2 : Hid (H + H' ≤ k) := hide (by have := unhide PX; have := unhide PY; have := unhide HM1; have := unhide HM2; have := unhide HT; have := unhide L0; have := unhide L0'; have := unhide H0; have := unhide H0'; omega)
  have D3 : Hid ((L + H) + (L' + H') ≤ k) := hide (by have := unhide PX; have := unhide PY; have := unhide HM1; have := unhide HM2; have := unhide HT; have := unhide H0; have := unhide H0'; omega)
  have X1 : Hid (L ≤ X ∧ H ≤ X ∧ L + H ≤ X) := hide (by have := unhide PX; have := unhide HM1; have := unhide H0; have := unhide L0; omega)
  have Y1 : Hid (L' ≤ Y ∧ H' ≤ Y ∧ L' + H' ≤ Y) := hide (by have := unhide PY; have := unhide HM2; have := unhide H0'; have := unhide L0'; omega)
  have TX := hide hx.nm
  have TY := hide hy.nm
  clear hx hy hk
  have e2 : ¬ (m : Int) ≤ 2 := by omega
  go_enter Try.func52, Try.ntmps52
  go_wp2_with fail
  refine (parts_any a n c h xs w (unhide HX).arg (by omega)).mono ?_
  rintro e w1 ⟨aL, nL, cL, aH, nH, cH, rfl, hb1, gL, gH⟩
  have AL : Hid (At w1 aL nL cL (trim (xs.take h)) L) := hide ⟨gL, by rw [← unhide HLe]; exact Nm.trimmed (okL_take (unhide TX).ok h)⟩
  have AH : Hid (At w1 aH nH cH (xs.drop h) H) := hide ⟨gH, okL_drop (unhide TX).ok h, trim_drop (unhide TX).tr h, unhide HHe⟩
  have bL : nL ≤ 200000 := Nat.le_trans ((unhide AL).le (unhide HX) (unhide X1).1) h1
  have bH : nH ≤ 200000 := Nat.le_trans ((unhide AH).le (unhide HX) (unhide X1).2.1) h1
  replace HX := hide ((unhide HX).later hb1)
  replace HY := hide ((unhide HY).later hb1)
  have HB := hide hb1
  clear hb1 gL gH
  generalize trim (xs.take h) = xL at *
  generalize xs.drop h = xH at *
  go_wp2_with fail
  refine (parts_any a' m c' h ys w1 (unhide HY).arg (by omega)).mono ?_
  rintro e w2 ⟨bL', nL', cL', bH', nH', cH', rfl, hb2, gL, gH⟩
  have BL : Hid (At w2 bL' nL' cL' (trim (ys.take h)) L') := hide ⟨gL, by rw [← unhide HLe']; exact Nm.trimmed (okL_take (unhide TY).ok h)⟩
  have BH : Hid (At w2 bH' nH' cH' (ys.drop h) H') := hide ⟨gH, okL_drop (unhide TY).ok h, trim_drop (unhide TY).tr h, unhide HHe'⟩
  have cbL : nL' ≤ 200000 := Nat.le_trans ((unhide BL).le (unhide HY) (unhide Y1).1) h2
  have cbH : nH' ≤ 200000 := Nat.le_trans ((unhide BH).le (unhide HY) (unhide Y1).2.1) h2
  replace HX := hide ((unhide HX).later hb2)
  replace HY := hide ((unhide HY).later hb2)
  replace AL := hide ((unhide AL).later hb2)
  replace AH := hide ((unhide AH).later hb2)
  replace HB := hide (below_on (unhide HB) hb2)
  clear hb2 gL gH
  generalize trim (ys.take h) = yL at *
  generalize ys.drop h = yH at *
  go_wp2_with fail
  refine (unhide IH _ _ _ _ _ _ _ _ _ _ w2 (unhide AL) (unhide BL) (unhide D1) bL cbL).mono ?_
  rintro e w3 ⟨a1, n1, c1, z1, rfl, hb, ho, ha, hn⟩
  have LO : Hid (At w3 a1 n1 c1 z1 (L * L')) := hide ⟨ha, hn⟩
  replace HX := hide ((unhide HX).later hb)
  replace HY := hide ((unhide HY).later hb)
  replace AL := hide ((unhide AL).later hb)
  replace AH := hide ((unhide AH).later hb)
  replace BL := hide ((unhide BL).later hb)
  replace BH := hide ((unhide BH).later hb)
  replace HB := hide (below_on (unhide HB) hb)
  clear hb ho ha hn
  go_wp2_with fail
  refine (unhide IH _ _ _ _ _ _ _ _ _ _ w3 (unhide AH) (unhide BH) (unhide D2) bH cbH).mono ?_
  rintro e w4 ⟨a2, n2, c2, z2, rfl, hb, ho, ha, hn⟩
  have HI : Hid (At w4 a2 n2 c2 z2 (H * H')) := hide ⟨ha, hn⟩
  replace HX := hide ((unhide HX).later hb)
  replace HY := hide ((unhide HY).later hb)
  replace AL := hide ((unhide AL).later hb)
  replace AH := hide ((unhide AH).later hb)
  replace BL := hide ((unhide BL).later hb)
  replace BH := hide ((unhide BH).later hb)
  replace LO := hide ((unhide LO).later hb)
  replace HB := hide (below_on (unhide HB) hb)
  clear hb ho ha hn
  have CA : Hid (Calls Try.prog 100 #[.slice aL nL cL, .slice aH nH cH] w4 (Out w4 (L + H))) := hide (by have := addI_any aL aH nL nH cL cH xL xH w4 (unhide AL).arg (unhide AH).arg (unhide AL).nm.ok (unhide AH).nm.ok (by omega) (by omega); rw [(unhide AL).nm.v, (unhide AH).nm.v] at this; exact this)
  go_wp2_with fail
  refine (unhide CA).mono ?_
  rintro e w5 ⟨a3, n3, c3, z3, rfl, hb, ho, ha, hn⟩
  have SA : Hid (At w5 a3 n3 c3 z3 (L + H)) := hide ⟨ha, hn⟩
  clear CA
  replace HX := hide ((unhide HX).later hb)
  replace HY := hide ((unhide HY).later hb)
  replace AL := hide ((unhide AL).later hb)
  replace AH := hide ((unhide AH).later hb)
  replace BL := hide ((unhide BL).later hb)
  replace BH := hide ((unhide BH).later hb)
  replace LO := hide ((unhide LO).later hb)
  replace HI := hide ((unhide HI).later hb)
  replace HB := hide (below_on (unhide HB) hb)
  clear hb ho ha hn
  have CB : Hid (Calls Try.prog 100 #[.slice bL' nL' cL', .slice bH' nH' cH'] w5 (Out w5 (L' + H'))) := hide (by have := addI_any bL' bH' nL' nH' cL' cH' yL yH w5 (unhide BL).arg (unhide BH).arg (unhide BL).nm.ok (unhide BH).nm.ok (by omega) (by omega); rw [(unhide BL).nm.v, (unhide BH).nm.v] at this; exact this)
  go_wp2_with fail
  refine (unhide CB).mono ?_
  rintro e w6 ⟨a4, n4, c4, z4, rfl, hb, ho, ha, hn⟩
  have SB : Hid (At w6 a4 n4 c4 z4 (L' + H')) := hide ⟨ha, hn⟩
  clear CB
  replace HX := hide ((unhide HX).later hb)
  replace HY := hide ((unhide HY).later hb)
  replace AL := hide ((unhide AL).later hb)
  replace AH := hide ((unhide AH).later hb)
  replace BL := hide ((unhide BL).later hb)
  replace BH := hide ((unhide BH).later hb)
  replace LO := hide ((unhide LO).later hb)
  replace HI := hide ((unhide HI).later hb)
  replace SA := hide ((unhide SA).later hb)
  replace HB := hide (below_on (unhide HB) hb)
  clear hb ho ha hn
  have b3 : n3 ≤ 200000 := Nat.le_trans ((unhide SA).le (unhide HX) (unhide X1).2.2) h1
  have b4 : n4 ≤ 200000 := Nat.le_trans ((unhide SB).le (unhide HY) (unhide Y1).2.2) h2
  go_wp2_with fail
  refine (unhide IH _ _ _ _ _ _ _ _ _ _ w6 (unhide SA) (unhide SB) (unhide D3) b3 b4).mono ?_
  rintro e w7 ⟨a5, n5, c5, z5, rfl, hb, ho, ha, hn⟩
  have BO : Hid (At w7 a5 n5 c5 z5 ((L + H) * (L' + H'))) := hide ⟨ha, hn⟩
  replace LO := hide ((unhide LO).later hb)
  replace HI := hide ((unhide HI).later hb)
  replace HB := hide (below_on (unhide HB) hb)
  clear hb ho ha hn
  have b5 : n5 ≤ 400000 := by have := len_mul (unhide SA) (unhide SB) (unhide BO); omega
  have ML := hide (mid_le (unhide L0) (unhide H0) (unhide L0') (unhide H0'))
  have CS1 : Hid (Calls Try.prog 101 #[.slice a5 n5 c5, .slice a1 n1 c1] w7 (Out w7 ((L + H) * (L' + H') - L * L'))) := hide (by have := subI_any a5 a1 n5 n1 c5 c1 z5 z1 w7 (unhide BO).arg (unhide LO).arg (unhide BO).nm.ok (unhide LO).nm.ok (by omega) ((unhide LO).le (unhide BO) (unhide ML).1) (by rw [(unhide BO).nm.v, (unhide LO).nm.v]; exact (unhide ML).1); rw [(unhide BO).nm.v, (unhide LO).nm.v] at this; exact this)
  go_wp2_with fail
  refine (unhide CS1).mono ?_
  rintro e w8 ⟨a6, n6, c6, z6, rfl, hb, ho, ha, hn⟩
  have S1 : Hid (At w8 a6 n6 c6 z6 ((L + H) * (L' + H') - L * L')) := hide ⟨ha, hn⟩
  clear CS1
  replace LO := hide ((unhide LO).later hb)
  replace HI := hide ((unhide HI).later hb)
  replace BO := hide ((unhide BO).later hb)
  replace HB := hide (below_on (unhide HB) hb)
  have LL0 : Hid (0 ≤ L * L') := hide (Int.mul_nonneg (unhide L0) (unhide L0'))
  have HH0 : Hid (0 ≤ H * H') := hide (Int.mul_nonneg (unhide H0) (unhide H0'))
  have b6 : n6 ≤ 400000 := Nat.le_trans ((unhide S1).le (unhide BO) (by have := unhide LL0; omega)) b5
  clear hb ho ha hn
  have CS2 : Hid (Calls Try.prog 101 #[.slice a6 n6 c6, .slice a2 n2 c2] w8 (Out w8 ((L + H) * (L' + H') - L * L' - H * H'))) := hide (by have := subI_any a6 a2 n6 n2 c6 c2 z6 z2 w8 (unhide S1).arg (unhide HI).arg (unhide S1).nm.ok (unhide HI).nm.ok (by omega) ((unhide HI).le (unhide S1) (unhide ML).2) (by rw [(unhide S1).nm.v, (unhide HI).nm.v]; exact (unhide ML).2); rw [(unhide S1).nm.v, (unhide HI).nm.v] at this; exact this)
  go_wp2_with fail
  refine (unhide CS2).mono ?_
  rintro e w9 ⟨a7, n7, c7, z7, rfl, hb, ho, ha, hn⟩
  have MI : Hid (At w9 a7 n7 c7 z7 ((L + H) * (L' + H') - L * L' - H * H')) := hide ⟨ha, hn⟩
  clear CS2
  replace LO := hide ((unhide LO).later hb)
  replace HI := hide ((unhide HI).later hb)
  replace S1 := hide ((unhide S1).later hb)
  replace HB := hide (below_on (unhide HB) hb)
  have b7 : n7 ≤ 400000 := Nat.le_trans ((unhide MI).le (unhide S1) (by have := unhide HH0; omega)) b6
  have b2 : n2 ≤ 400000 := by have := len_mul (unhide AH) (unhide BH) (unhide HI); omega
  have b1 : n1 ≤ 400000 := by have := len_mul (unhide AL) (unhide BL) (unhide LO); omega
  clear hb ho ha hn
  go_wp2_with fail
  refine (shiftI_any' a7 n7 c7 _ h rfl z7 w9 (unhide MI).arg (unhide MI).nm.ok (by omega) (by omega)).mono ?_
  rintro e w10 ⟨a8, n8, c8, z8, rfl, hb, ho, ha, hk8, hv8, hl8⟩
  have M8 := hide (And.intro ha (And.intro hk8 hv8))
  have b8 : n8 ≤ 600000 := by rw [← ha.len]; omega
  replace LO := hide ((unhide LO).later hb)
  replace HI := hide ((unhide HI).later hb)
  replace MI := hide ((unhide MI).later hb)
  replace HB := hide (below_on (unhide HB) hb)
  clear hb ho ha hk8 hv8 hl8
  go_wp2_with fail
  refine (shiftI_any' a2 n2 c2 _ (2 * h) (by omega) z2 w10 (unhide HI).arg (unhide HI).nm.ok (by omega) (by omega)).mono ?_
  rintro e w11 ⟨a9, n9, c9, z9, rfl, hb, ho, ha, hk9, hv9, hl9⟩
  have b9 : n9 ≤ 600000 := by rw [← ha.len]; omega
  have A8 := hide ((unhide M8).1.later hb)
  replace LO := hide ((unhide LO).later hb)
  replace HB := hide (below_on (unhide HB) hb)
  have CA1 := hide (addI_any a8 a9 n8 n9 c8 c9 z8 z9 w11 (unhide A8) ha (unhide M8).2.1 hk9 (by omega) (by omega))
  have HV9 := hide hv9
  have K9 := hide hk9
  have L9 := hide ha.len
  clear hb ho ha hk9 hv9 hl9
  go_wp2_with fail
  refine (unhide CA1).mono ?_
  rintro e w12 ⟨a10, n10, c10, z10, rfl, hb, ho, ha, hn⟩
  have b10 : n10 ≤ 600001 := by rw [← ha.len]; exact add_len2 hn (unhide M8).2.1 (unhide K9) (by rw [(unhide A8).len]; exact b8) (by rw [unhide L9]; exact b9)
  replace LO := hide ((unhide LO).later hb)
  replace HB := hide (below_on (unhide HB) hb)
  have CA2 : Hid (Calls Try.prog 100 #[.slice a1 n1 c1, .slice a10 n10 c10] w12 (Out w12 (X * Y))) := hide (by
    have := addI_any a1 a10 n1 n10 c1 c10 z1 z10 w12 (unhide LO).arg ha (unhide LO).nm.ok hn.ok (by omega) (by omega)
    rw [(unhide LO).nm.v, hn.v, (unhide M8).2.2, unhide HV9, (unhide MI).nm.v, (unhide HI).nm.v] at this
    rw [show (65536 : Int) ^ (2 * h) = 65536 ^ h * 65536 ^ h by rw [← Int.pow_add]; congr 1; omega, kara, ← unhide PX, ← unhide PY] at this
    exact this)
  clear hb ho ha hn
  go_wp2_with fail
  refine (unhide CA2).mono ?_
  rintro e w13 ⟨a11, n11, c11, z11, rfl, hb, ho, ha, hn⟩
  have HF := hide (And.intro (below_on (unhide HB) hb) (And.intro (ho.mono (unhide HB).size) (And.intro ha hn)))
  clear hb ho ha hn
  go_wp2_with fail
  go_ret
  exact ⟨a11, n11, c11, z11, rfl, (unhide HF).1, (unhide HF).2.1, (unhide HF).2.2.1, (unhide HF).2.2.2⟩

set_option maxRecDepth 100000 in
set_option maxHeartbeats 8000000 in
theorem halv_step_ge (k : Nat) (IH : Hid (HalvSaid k)) (a a' : Option Addr) (n m c c' h : Nat) (xs ys : List Int) (X Y : Int) (w : World) (hx : At w a n c xs X) (hy : At w a' m c' ys Y) (hk : X + Y ≤ k + 1) (h1 : n ≤ 200000) (h2 : m ≤ 200000) (hnm : ¬ n < m) (hN : 3 ≤ n) (hh : ((n : Nat) : Int) / 2 = (h : Int)) :
    Calls Try.prog 52 #[.slice a n c, .slice a' m c'] w (Out w (X * Y)) := by
  have HX := hide hx
  have HY := hide hy
  have hh1 : 1 ≤ h := by omega
  have hh2 : h ≤ 100000 := by omega
  obtain ⟨L, HLe⟩ : ∃ L, Hid (val (xs.take h) = L) := ⟨_, hide rfl⟩
  obtain ⟨H, HHe⟩ : ∃ H, Hid (val (xs.drop h) = H) := ⟨_, hide rfl⟩
  obtain ⟨L', HLe'⟩ : ∃ L', Hid (val (ys.take h) = L') := ⟨_, hide rfl⟩
  obtain ⟨H', HHe'⟩ : ∃ H', Hid (val (ys.drop h) = H') := ⟨_, hide rfl⟩
  have PX : Hid (X = L + 65536 ^ h * H) := hide (by rw [← unhide HLe, ← unhide HHe, ← part_val, hx.nm.v])
  have PY : Hid (Y = L' + 65536 ^ h * H') := hide (by rw [← unhide HLe', ← unhide HHe', ← part_val, hy.nm.v])
  have L0 : Hid (0 ≤ L) := hide (by rw [← unhide HLe]; exact val_nonneg (okL_take hx.nm.ok h))
  have H0 : Hid (0 ≤ H) := hide (by rw [← unhide HHe]; exact val_nonneg (okL_drop hx.nm.ok h))
  have L0' : Hid (0 ≤ L') := hide (by rw [← unhide HLe']; exact val_nonneg (okL_take hy.nm.ok h))
  have H0' : Hid (0 ≤ H') := hide (by rw [← unhide HHe']; exact val_nonneg (okL_drop hy.nm.ok h))
  have HP : Hid ((65536 : Int) ≤ 65536 ^ h) := hide (by have := pow_mono hh1; simpa using this)
  have HM1 : Hid (65536 * H ≤ 65536 ^ h * H) := hide (Int.mul_le_mul_of_nonneg_right (unhide HP) (unhide H0))
  have HM2 : Hid (65536 * H' ≤ 65536 ^ h * H') := hide (Int.mul_le_mul_of_nonneg_right (unhide HP) (unhide H0'))
  have HT : Hid (0 < H + H') := hide (by
    have nx := (val_zero_iff (okL_drop hx.nm.ok h) (trim_drop hx.nm.tr h))
    have ny := (val_zero_iff (okL_drop hy.nm.ok h) (trim_drop hy.nm.tr h))
    rw [unhide HHe] at nx
    rw [unhide HHe'] at ny
    have hp := unhide H0
    have hp' := unhide H0'
    by_cases hz : H = 0
    · by_cases hz' : H' = 0
      · have e1 := congrArg List.length (nx.1 hz)
        have e2 := congrArg List.length (ny.1 hz')
        rw [List.length_drop, List.length_nil, hx.arg.len] at e1
        rw [List.length_drop, List.length_nil, hy.arg.len] at e2
        omega
      · omega
    · omega)
  have D1 : Hid (L + L' ≤ k) := hide (by have := unhide PX; have := unhide PY; have := unhide HM1; have := unhide HM2; have := unhide HT; have := unhide H0; have := unhide H0'; omega)
  have D2 : Hid (H + H' ≤ k) := hide (by have := unhide PX; have := unhide PY; have := unhide HM1; have := unhide HM2; have := unhide HT; have := unhide L0; have := unhide L0'; have := unhide H0; have := unhide H0'; omega)
  have D3 : Hid ((L + H) + (L' + H') ≤ k) := hide (by have := unhide PX; have := unhide PY; have := unhide HM1; have := unhide HM2; have := unhide HT; have := unhide H0; have := unhide H0'; omega)
  have X1 : Hid (L ≤ X ∧ H ≤ X ∧ L + H ≤ X) := hide (by have := unhide PX; have := unhide HM1; have := unhide H0; have := unhide L0; omega)
  have Y1 : Hid (L' ≤ Y ∧ H' ≤ Y ∧ L' + H' ≤ Y) := hide (by have := unhide PY; have := unhide HM2; have := unhide H0'; have := unhide L0'; omega)
  have TX := hide hx.nm
  have TY := hide hy.nm
  clear hx hy hk
  have e2 : ¬ (n : Int) ≤ 2 := by omega
  go_enter Try.func52, Try.ntmps52
  go_wp2_with fail
  refine (parts_any a n c h xs w (unhide HX).arg (by omega)).mono ?_
  rintro e w1 ⟨aL, nL, cL, aH, nH, cH, rfl, hb1, gL, gH⟩
  have AL : Hid (At w1 aL nL cL (trim (xs.take h)) L) := hide ⟨gL, by rw [← unhide HLe]; exact Nm.trimmed (okL_take (unhide TX).ok h)⟩
  have AH : Hid (At w1 aH nH cH (xs.drop h) H) := hide ⟨gH, okL_drop (unhide TX).ok h, trim_drop (unhide TX).tr h, unhide HHe⟩
  have bL : nL ≤ 200000 := Nat.le_trans ((unhide AL).le (unhide HX) (unhide X1).1) h1
  have bH : nH ≤ 200000 := Nat.le_trans ((unhide AH).le (unhide HX) (unhide X1).2.1) h1
  replace HX := hide ((unhide HX).later hb1)
  replace HY := hide ((unhide HY).later hb1)
  have HB := hide hb1
  clear hb1 gL gH
  generalize trim (xs.take h) = xL at *
  generalize xs.drop h = xH at *
  go_wp2_with fail
  refine (parts_any a' m c' h ys w1 (unhide HY).arg (by omega)).mono ?_
  rintro e w2 ⟨bL', nL', cL', bH', nH', cH', rfl, hb2, gL, gH⟩
  have BL : Hid (At w2 bL' nL' cL' (trim (ys.take h)) L') := hide ⟨gL, by rw [← unhide HLe']; exact Nm.trimmed (okL_take (unhide TY).ok h)⟩
  have BH : Hid (At w2 bH' nH' cH' (ys.drop h) H') := hide ⟨gH, okL_drop (unhide TY).ok h, trim_drop (unhide TY).tr h, unhide HHe'⟩
  have cbL : nL' ≤ 200000 := Nat.le_trans ((unhide BL).le (unhide HY) (unhide Y1).1) h2
  have cbH : nH' ≤ 200000 := Nat.le_trans ((unhide BH).le (unhide HY) (unhide Y1).2.1) h2
  replace HX := hide ((unhide HX).later hb2)
  replace HY := hide ((unhide HY).later hb2)
  replace AL := hide ((unhide AL).later hb2)
  replace AH := hide ((unhide AH).later hb2)
  replace HB := hide (below_on (unhide HB) hb2)
  clear hb2 gL gH
  generalize trim (ys.take h) = yL at *
  generalize ys.drop h = yH at *
  go_wp2_with fail
  refine (unhide IH _ _ _ _ _ _ _ _ _ _ w2 (unhide AL) (unhide BL) (unhide D1) bL cbL).mono ?_
  rintro e w3 ⟨a1, n1, c1, z1, rfl, hb, ho, ha, hn⟩
  have LO : Hid (At w3 a1 n1 c1 z1 (L * L')) := hide ⟨ha, hn⟩
  replace HX := hide ((unhide HX).later hb)
  replace HY := hide ((unhide HY).later hb)
  replace AL := hide ((unhide AL).later hb)
  replace AH := hide ((unhide AH).later hb)
  replace BL := hide ((unhide BL).later hb)
  replace BH := hide ((unhide BH).later hb)
  replace HB := hide (below_on (unhide HB) hb)
  clear hb ho ha hn
  go_wp2_with fail
  refine (unhide IH _ _ _ _ _ _ _ _ _ _ w3 (unhide AH) (unhide BH) (unhide D2) bH cbH).mono ?_
  rintro e w4 ⟨a2, n2, c2, z2, rfl, hb, ho, ha, hn⟩
  have HI : Hid (At w4 a2 n2 c2 z2 (H * H')) := hide ⟨ha, hn⟩
  replace HX := hide ((unhide HX).later hb)
  replace HY := hide ((unhide HY).later hb)
  replace AL := hide ((unhide AL).later hb)
  replace AH := hide ((unhide AH).later hb)
  replace BL := hide ((unhide BL).later hb)
  replace BH := hide ((unhide BH).later hb)
  replace LO := hide ((unhide LO).later hb)
  replace HB := hide (below_on (unhide HB) hb)
  clear hb ho ha hn
  have CA : Hid (Calls Try.prog 100 #[.slice aL nL cL, .slice aH nH cH] w4 (Out w4 (L + H))) := hide (by have := addI_any aL aH nL nH cL cH xL xH w4 (unhide AL).arg (unhide AH).arg (unhide AL).nm.ok (unhide AH).nm.ok (by omega) (by omega); rw [(unhide AL).nm.v, (unhide AH).nm.v] at this; exact this)
  go_wp2_with fail
  refine (unhide CA).mono ?_
  rintro e w5 ⟨a3, n3, c3, z3, rfl, hb, ho, ha, hn⟩
  have SA : Hid (At w5 a3 n3 c3 z3 (L + H)) := hide ⟨ha, hn⟩
  clear CA
  replace HX := hide ((unhide HX).later hb)
  replace HY := hide ((unhide HY).later hb)
  replace AL := hide ((unhide AL).later hb)
  replace AH := hide ((unhide AH).later hb)
  replace BL := hide ((unhide BL).later hb)
  replace BH := hide ((unhide BH).later hb)
  replace LO := hide ((unhide LO).later hb)
  replace HI := hide ((unhide HI).later hb)
  replace HB := hide (below_on (unhide HB) hb)
  clear hb ho ha hn
  have CB : Hid (Calls Try.prog 100 #[.slice bL' nL' cL', .slice bH' nH' cH'] w5 (Out w5 (L' + H'))) := hide (by have := addI_any bL' bH' nL' nH' cL' cH' yL yH w5 (unhide BL).arg (unhide BH).arg (unhide BL).nm.ok (unhide BH).nm.ok (by omega) (by omega); rw [(unhide BL).nm.v, (unhide BH).nm.v] at this; exact this)
  go_wp2_with fail
  refine (unhide CB).mono ?_
  rintro e w6 ⟨a4, n4, c4, z4, rfl, hb, ho, ha, hn⟩
  have SB : Hid (At w6 a4 n4 c4 z4 (L' + H')) := hide ⟨ha, hn⟩
  clear CB
  replace HX := hide ((unhide HX).later hb)
  replace HY := hide ((unhide HY).later hb)
  replace AL := hide ((unhide AL).later hb)
  replace AH := hide ((unhide AH).later hb)
  replace BL := hide ((unhide BL).later hb)
  replace BH := hide ((unhide BH).later hb)
  replace LO := hide ((unhide LO).later hb)
  replace HI := hide ((unhide HI).later hb)
  replace SA := hide ((unhide SA).later hb)
  replace HB := hide (below_on (unhide HB) hb)
  clear hb ho ha hn
  have b3 : n3 ≤ 200000 := Nat.le_trans ((unhide SA).le (unhide HX) (unhide X1).2.2) h1
  have b4 : n4 ≤ 200000 := Nat.le_trans ((unhide SB).le (unhide HY) (unhide Y1).2.2) h2
  go_wp2_with fail
  refine (unhide IH _ _ _ _ _ _ _ _ _ _ w6 (unhide SA) (unhide SB) (unhide D3) b3 b4).mono ?_
  rintro e w7 ⟨a5, n5, c5, z5, rfl, hb, ho, ha, hn⟩
  have BO : Hid (At w7 a5 n5 c5 z5 ((L + H) * (L' + H'))) := hide ⟨ha, hn⟩
  replace LO := hide ((unhide LO).later hb)
  replace HI := hide ((unhide HI).later hb)
  replace HB := hide (below_on (unhide HB) hb)
  clear hb ho ha hn
  have b5 : n5 ≤ 400000 := by have := len_mul (unhide SA) (unhide SB) (unhide BO); omega
  have ML := hide (mid_le (unhide L0) (unhide H0) (unhide L0') (unhide H0'))
  have CS1 : Hid (Calls Try.prog 101 #[.slice a5 n5 c5, .slice a1 n1 c1] w7 (Out w7 ((L + H) * (L' + H') - L * L'))) := hide (by have := subI_any a5 a1 n5 n1 c5 c1 z5 z1 w7 (unhide BO).arg (unhide LO).arg (unhide BO).nm.ok (unhide LO).nm.ok (by omega) ((unhide LO).le (unhide BO) (unhide ML).1) (by rw [(unhide BO).nm.v, (unhide LO).nm.v]; exact (unhide ML).1); rw [(unhide BO).nm.v, (unhide LO).nm.v] at this; exact this)
  go_wp2_with fail
  refine (unhide CS1).mono ?_
  rintro e w8 ⟨a6, n6, c6, z6, rfl, hb, ho, ha, hn⟩
  have S1 : Hid (At w8 a6 n6 c6 z6 ((L + H) * (L' + H') - L * L')) := hide ⟨ha, hn⟩
  clear CS1
  replace LO := hide ((unhide LO).later hb)
  replace HI := hide ((unhide HI).later hb)
  replace BO := hide ((unhide BO).later hb)
  replace HB := hide (below_on (unhide HB) hb)
  have LL0 : Hid (0 ≤ L * L') := hide (Int.mul_nonneg (unhide L0) (unhide L0'))
  have HH0 : Hid (0 ≤ H * H') := hide (Int.mul_nonneg (unhide H0) (unhide H0'))
  have b6 : n6 ≤ 400000 := Nat.le_trans ((unhide S1).le (unhide BO) (by have := unhide LL0; omega)) b5
  clear hb ho ha hn
  have CS2 : Hid (Calls Try.prog 101 #[.slice a6 n6 c6, .slice a2 n2 c2] w8 (Out w8 ((L + H) * (L' + H') - L * L' - H * H'))) := hide (by have := subI_any a6 a2 n6 n2 c6 c2 z6 z2 w8 (unhide S1).arg (unhide HI).arg (unhide S1).nm.ok (unhide HI).nm.ok (by omega) ((unhide HI).le (unhide S1) (unhide ML).2) (by rw [(unhide S1).nm.v, (unhide HI).nm.v]; exact (unhide ML).2); rw [(unhide S1).nm.v, (unhide HI).nm.v] at this; exact this)
  go_wp2_with fail
  refine (unhide CS2).mono ?_
  rintro e w9 ⟨a7, n7, c7, z7, rfl, hb, ho, ha, hn⟩
  have MI : Hid (At w9 a7 n7 c7 z7 ((L + H) * (L' + H') - L * L' - H * H')) := hide ⟨ha, hn⟩
  clear CS2
  replace LO := hide ((unhide LO).later hb)
  replace HI := hide ((unhide HI).later hb)
  replace S1 := hide ((unhide S1).later hb)
  replace HB := hide (below_on (unhide HB) hb)
  have b7 : n7 ≤ 400000 := Nat.le_trans ((unhide MI).le (unhide S1) (by have := unhide HH0; omega)) b6
  have b2 : n2 ≤ 400000 := by have := len_mul (unhide AH) (unhide BH) (unhide HI); omega
  have b1 : n1 ≤ 400000 := by have := len_mul (unhide AL) (unhide BL) (unhide LO); omega
  clear hb ho ha hn
  go_wp2_with fail
  refine (shiftI_any' a7 n7 c7 _ h rfl z7 w9 (unhide MI).arg (unhide MI).nm.ok (by omega) (by omega)).mono ?_
  rintro e w10 ⟨a8, n8, c8, z8, rfl, hb, ho, ha, hk8, hv8, hl8⟩
  have M8 := hide (And.intro ha (And.intro hk8 hv8))
  have b8 : n8 ≤ 600000 := by rw [← ha.len]; omega
  replace LO := hide ((unhide LO).later hb)
  replace HI := hide ((unhide HI).later hb)
  replace MI := hide ((unhide MI).later hb)
  replace HB := hide (below_on (unhide HB) hb)
  clear hb ho ha hk8 hv8 hl8
  go_wp2_with fail
  refine (shiftI_any' a2 n2 c2 _ (2 * h) (by omega) z2 w10 (unhide HI).arg (unhide HI).nm.ok (by omega) (by omega)).mono ?_
  rintro e w11 ⟨a9, n9, c9, z9, rfl, hb, ho, ha, hk9, hv9, hl9⟩
  have b9 : n9 ≤ 600000 := by rw [← ha.len]; omega
  have A8 := hide ((unhide M8).1.later hb)
  replace LO := hide ((unhide LO).later hb)
  replace HB := hide (below_on (unhide HB) hb)
  have CA1 := hide (addI_any a8 a9 n8 n9 c8 c9 z8 z9 w11 (unhide A8) ha (unhide M8).2.1 hk9 (by omega) (by omega))
  have HV9 := hide hv9
  have K9 := hide hk9
  have L9 := hide ha.len
  clear hb ho ha hk9 hv9 hl9
  go_wp2_with fail
  refine (unhide CA1).mono ?_
  rintro e w12 ⟨a10, n10, c10, z10, rfl, hb, ho, ha, hn⟩
  have b10 : n10 ≤ 600001 := by rw [← ha.len]; exact add_len2 hn (unhide M8).2.1 (unhide K9) (by rw [(unhide A8).len]; exact b8) (by rw [unhide L9]; exact b9)
  replace LO := hide ((unhide LO).later hb)
  replace HB := hide (below_on (unhide HB) hb)
  have CA2 : Hid (Calls Try.prog 100 #[.slice a1 n1 c1, .slice a10 n10 c10] w12 (Out w12 (X * Y))) := hide (by
    have := addI_any a1 a10 n1 n10 c1 c10 z1 z10 w12 (unhide LO).arg ha (unhide LO).nm.ok hn.ok (by omega) (by omega)
    rw [(unhide LO).nm.v, hn.v, (unhide M8).2.2, unhide HV9, (unhide MI).nm.v, (unhide HI).nm.v] at this
    rw [show (65536 : Int) ^ (2 * h) = 65536 ^ h * 65536 ^ h by rw [← Int.pow_add]; congr 1; omega, kara, ← unhide PX, ← unhide PY] at this
    exact this)
  clear hb ho ha hn
  go_wp2_with fail
  refine (unhide CA2).mono ?_
  rintro e w13 ⟨a11, n11, c11, z11, rfl, hb, ho, ha, hn⟩
  have HF := hide (And.intro (below_on (unhide HB) hb) (And.intro (ho.mono (unhide HB).size) (And.intro ha hn)))
  clear hb ho ha hn
  go_wp2_with fail
  go_ret
  exact ⟨a11, n11, c11, z11, rfl, (unhide HF).1, (unhide HF).2.1, (unhide HF).2.2.1, (unhide HF).2.2.2⟩

theorem halvesI (k : Nat) : HalvSaid k := by
  induction k with
  | zero =>
    intro a a' n m c c' xs ys X Y w hx hy hk h1 h2
    have x0 := hx.nm.nonneg
    have y0 := hy.nm.nonneg
    have ex : xs = [] := hx.nm.nil_iff.2 (by omega)
    have ey : ys = [] := hy.nm.nil_iff.2 (by omega)
    have lx := hx.arg.len
    have ly := hy.arg.len
    rw [ex] at lx
    rw [ey] at ly
    simp only [List.length_nil] at lx ly
    exact halv_small a a' n m c c' xs ys X Y w hx hy (by omega) (by omega)
  | succ k ih =>
    intro a a' n m c c' xs ys X Y w hx hy hk h1 h2
    by_cases hs : n ≤ 2 ∧ m ≤ 2
    · exact halv_small a a' n m c c' xs ys X Y w hx hy hs.1 hs.2
    · by_cases hnm : n < m
      · exact halv_step_lt k (hide ih) a a' n m c c' (m / 2) xs ys X Y w hx hy (by omega) h1 h2 hnm (by omega) (by omega)
      · exact halv_step_ge k (hide ih) a a' n m c c' (n / 2) xs ys X Y w hx hy (by omega) h1 h2 hnm (by omega) (by omega)
end Go.Proofs.Ytagnhgefdcckoaa
namespace Go.Proofs.Ytagnhgefdcckoaa
open Go.RowKit
set_option linter.unusedVariables false
set_option maxRecDepth 100000
set_option linter.unusedSimpArgs false

theorem trim_of_top {zs : List Int} (h : okL zs) (h0 : 0 < zs.length) (ht : (65536 : Int) ^ (zs.length - 1) ≤ val zs) : trim zs = zs := by
  have e : zs = zs.take (zs.length - 1) ++ [zs.getD (zs.length - 1) 0] := by
    rw [← take_succ' (by omega), show zs.length - 1 + 1 = zs.length by omega, List.take_length]
  by_cases hz : zs.getD (zs.length - 1) 0 = 0
  · have hv : val zs = val (zs.take (zs.length - 1)) := by
      conv => lhs; rw [e]
      rw [val_snoc, hz]; simp
    have hl := val_lt (okL_take h (zs.length - 1))
    rw [List.length_take, Nat.min_eq_left (by omega)] at hl
    omega
  · conv => lhs; rw [e]
    rw [trim_snoc_ne _ hz]
    exact e.symm

set_option maxHeartbeats 4000000 in
theorem addT_any (a a' : Option Addr) (n m c c' : Nat) (xs ys : List Int) (w : World) (hx : Arg w a n c xs) (hy : Arg w a' m c' ys) (ox : okL xs) (oy : okL ys) (tx : trim xs = xs) (ty : trim ys = ys) (h1 : n ≤ 1048576) (h2 : m ≤ 1048576) :
    Calls Try.prog 70 #[.slice a n c, .slice a' m c'] w (Out w (val xs + val ys)) := by
  obtain ⟨i0, hi, hz0, hz1, hz2⟩ := info_parts Try.info3
  have HN := hide hx.len
  have HM := hide hy.len
  have HX := hide hx.sl
  have HY := hide hy.sl
  have TX := hide tx
  have TY := hide ty
  clear hx hy tx ty
  go_enter Try.func70, Try.ntmps70
  go_wp2
  go_loopw [5, 6, 7] (fun v cv i wr => ∃ (k : Nat) (cy : Int) (zs : List Int), k ≤ max n m + 1 ∧ i = .int .i64 k ∧ cv = .int .i64 cy ∧ 0 ≤ cy ∧ cy ≤ 1 ∧ (k = max n m + 1 → cy = 0) ∧ Hid (k = max n m + 1 → 65536 ^ (max n m) ≤ val xs + val ys) ∧ Hid (Acc zs k cy (val (xs.take k) + val (ys.take k))) ∧
      Hid (wr.ownsRow w.heap.size 3 1 v k (zs.map (Value.int .i64))) ∧ Hid (Below w.heap.size w wr)) (fun _ _ i _ => max n m + 1 - (intOf i).toNat)
  case atStart => exact ⟨0, 0, [], Nat.zero_le _, rfl, rfl, by omega, by omega, fun _ => rfl, hide (fun h => by omega), hide (by simpa [val] using Acc.start), hide (World.ownsRow_nil _ _ _ _), hide (Below.refl _ _)⟩
  case round =>
    obtain ⟨k, cy, zs, hk, rfl, rfl, hc0, hc1, hcz, HW, HA, HO, HB⟩ := hrel
    by_cases hgo : k < n ∨ k < m ∨ 0 < cy
    · have hklt : k < max n m + 1 := by
        rcases hgo with h | h | h
        · omega
        · omega
        · by_cases hq : k = max n m + 1
          · have := hcz hq; omega
          · omega
      have hxb := okL_get ox k
      have hyb := okL_get oy k
      have hvx := hide (val_take_succ xs k)
      have hvy := hide (val_take_succ ys k)
      have SX := hide ((unhide HX).later (Nat.le_refl _) (unhide HB))
      have SY := hide ((unhide HY).later (Nat.le_refl _) (unhide HB))
      have hlast : k = max n m → xs.getD k 0 = 0 ∧ ys.getD k 0 = 0 := fun e => ⟨getD_out (unhide HN) (by omega), getD_out (unhide HM) (by omega)⟩
      have LX := hide (fun w h => limb_any a n c xs k w h (unhide HN))
      have LY := hide (fun w h => limb_any a' m c' ys k w h (unhide HM))
      generalize xs.getD k 0 = x at *
      generalize ys.getD k 0 = y at *
      obtain ⟨hx0, hx1⟩ := hxb
      obtain ⟨hy0, hy1⟩ := hyb
      have HLast := hide hlast
      have HCZ := hide hcz
      have HW2 : Hid (k + 1 = max n m + 1 → 65536 ^ (max n m) ≤ val xs + val ys) := hide (by
        intro e
        have hcy : 1 ≤ cy := by
          rcases hgo with h | h | h
          · omega
          · omega
          · omega
        have e1 := (unhide HA).v
        rw [List.take_of_length_le (by rw [unhide HN]; omega), List.take_of_length_le (by rw [unhide HM]; omega)] at e1
        have e2 := val_nonneg (unhide HA).ok
        have e3 : (65536 : Int) ^ k * 1 ≤ 65536 ^ k * cy := Int.mul_le_mul_of_nonneg_left hcy (Int.le_of_lt (Int.pow_pos (by omega)))
        rw [show max n m = k by omega]
        omega)
      have HA2 := hide ((unhide HA).step (x + y + cy))
      clear hlast hcz
      rcases (show (k < n) ∨ (¬ k < n ∧ k < m) ∨ (¬ k < n ∧ ¬ k < m ∧ 0 < cy) from by omega) with g1 | ⟨g1, g2⟩ | ⟨g1, g2, g3⟩
      · have d1 : (k : Int) < (n : Int) := by omega
        go_wp2_with fail
        refine (unhide LX _ (unhide SX)).mono ?_
        rintro e w2 ⟨rfl, rfl⟩
        go_wp2_with fail
        refine (unhide LY _ (unhide SY)).mono ?_
        rintro e w3 ⟨rfl, rfl⟩
        go_wp2_with (at_builtin; refine wpList_append_own _ rfl (.tmp 34) (.tmp 37) 23 rfl w.heap.size 3 i0 (.int .i64 0) 1 8 Try.underlying23 hi hz0 hz1 hz2 rfl (by decide) _ _ _ rfl ((unhide HO).alloc _) ⟨_, 0, none⟩ 1 1 [.int .i64 ((x + y + cy) % 65536)] rfl rfl (new_cell _ _) (fun u hu => by simp at hu; subst hu; rfl) (by unfold maxLen; omega) (by omega) (by have := (unhide HB).size; simp; omega) ?_)
        intro v' w1 hown hg _
        have HR := hide (push_owns (w := w) (v := v') hown)
        have HB2 := hide (below_push (base := 0) (unhide HB) (unhide HO) hg)
        clear hown hg
        go_wp2
        go_roundw
        case rel => exact ⟨k + 1, (x + y + cy) / 65536, zs ++ [(x + y + cy) % 65536], by omega, by go_num, rfl, by omega, by omega, fun e => by have := unhide HLast (by omega); omega, HW2, hide ((unhide HA2).cast (by rw [unhide hvx, unhide hvy, Int.mul_sub, Int.mul_add, Int.mul_add]; omega)), HR, HB2⟩
        case measure => simp [intOf]; omega
      · have d1 : decide ((k : Int) < (n : Int)) = false := by simp; omega
        have d2 : (k : Int) < (m : Int) := by omega
        go_wp2_with fail
        refine (unhide LX _ (unhide SX)).mono ?_
        rintro e w2 ⟨rfl, rfl⟩
        go_wp2_with fail
        refine (unhide LY _ (unhide SY)).mono ?_
        rintro e w3 ⟨rfl, rfl⟩
        go_wp2_with (at_builtin; refine wpList_append_own _ rfl (.tmp 34) (.tmp 37) 23 rfl w.heap.size 3 i0 (.int .i64 0) 1 8 Try.underlying23 hi hz0 hz1 hz2 rfl (by decide) _ _ _ rfl ((unhide HO).alloc _) ⟨_, 0, none⟩ 1 1 [.int .i64 ((x + y + cy) % 65536)] rfl rfl (new_cell _ _) (fun u hu => by simp at hu; subst hu; rfl) (by unfold maxLen; omega) (by omega) (by have := (unhide HB).size; simp; omega) ?_)
        intro v' w1 hown hg _
        have HR := hide (push_owns (w := w) (v := v') hown)
        have HB2 := hide (below_push (base := 0) (unhide HB) (unhide HO) hg)
        clear hown hg
        go_wp2
        go_roundw
        case rel => exact ⟨k + 1, (x + y + cy) / 65536, zs ++ [(x + y + cy) % 65536], by omega, by go_num, rfl, by omega, by omega, fun e => by have := unhide HLast (by omega); omega, HW2, hide ((unhide HA2).cast (by rw [unhide hvx, unhide hvy, Int.mul_sub, Int.mul_add, Int.mul_add]; omega)), HR, HB2⟩
        case measure => simp [intOf]; omega
      · have d1 : decide ((k : Int) < (n : Int)) = false := by simp; omega
        have d2 : decide ((k : Int) < (m : Int)) = false := by simp; omega
        go_wp2_with fail
        refine (unhide LX _ (unhide SX)).mono ?_
        rintro e w2 ⟨rfl, rfl⟩
        go_wp2_with fail
        refine (unhide LY _ (unhide SY)).mono ?_
        rintro e w3 ⟨rfl, rfl⟩
        go_wp2_with (at_builtin; refine wpList_append_own _ rfl (.tmp 34) (.tmp 37) 23 rfl w.heap.size 3 i0 (.int .i64 0) 1 8 Try.underlying23 hi hz0 hz1 hz2 rfl (by decide) _ _ _ rfl ((unhide HO).alloc _) ⟨_, 0, none⟩ 1 1 [.int .i64 ((x + y + cy) % 65536)] rfl rfl (new_cell _ _) (fun u hu => by simp at hu; subst hu; rfl) (by unfold maxLen; omega) (by omega) (by have := (unhide HB).size; simp; omega) ?_)
        intro v' w1 hown hg _
        have HR := hide (push_owns (w := w) (v := v') hown)
        have HB2 := hide (below_push (base := 0) (unhide HB) (unhide HO) hg)
        clear hown hg
        go_wp2
        go_roundw
        case rel => exact ⟨k + 1, (x + y + cy) / 65536, zs ++ [(x + y + cy) % 65536], by omega, by go_num, rfl, by omega, by omega, fun e => by have := unhide HLast (by omega); omega, HW2, hide ((unhide HA2).cast (by rw [unhide hvx, unhide hvy, Int.mul_sub, Int.mul_add, Int.mul_add]; omega)), HR, HB2⟩
        case measure => simp [intOf]; omega
    · have d1 : decide ((k : Int) < (n : Int)) = false := by simp; omega
      have d2 : decide ((k : Int) < (m : Int)) = false := by simp; omega
      have d3 : ¬ (0 : Int) < cy := by omega
      obtain ⟨a2, c2, rfl, ho, ha⟩ := owns_shape (unhide HO) (unhide HA).len
      have HF := hide (And.intro ho ha)
      clear ho ha
      go_wp2
      go_ret
      have e1 := (unhide HA).v
      rw [List.take_of_length_le (by rw [unhide HN]; omega), List.take_of_length_le (by rw [unhide HM]; omega)] at e1
      have e2 : cy = 0 := by omega
      rw [e2] at e1
      have e3 : val zs = val xs + val ys := by simpa using e1
      refine ⟨a2, _, c2, zs, rfl, unhide HB, (unhide HF).1, (unhide HF).2, (unhide HA).ok, ?_, e3⟩
      by_cases hz : zs = []
      · rw [hz]; rfl
      · have hlz : 0 < zs.length := List.length_pos_iff.2 hz
        refine trim_of_top (unhide HA).ok hlz ?_
        rw [e3]
        have hl := (unhide HA).len
        have x0 := val_nonneg ox
        have y0 := val_nonneg oy
        by_cases hq : k = max n m + 1
        · rw [hl, show k - 1 = max n m by omega]
          exact unhide HW hq
        · by_cases hnm : n ≤ m
          · have := top_le oy (unhide TY) (by rw [unhide HM]; omega)
            rw [unhide HM] at this
            rw [hl, show k - 1 = m - 1 by omega]
            omega
          · have := top_le ox (unhide TX) (by rw [unhide HN]; omega)
            rw [unhide HN] at this
            rw [hl, show k - 1 = n - 1 by omega]
            omega
end Go.Proofs.Ytagnhgefdcckoaa
namespace Go.Proofs.Ytagnhgefdcckoaa
open Go.RowKit
set_option linter.unusedVariables false
set_option maxRecDepth 100000
set_option linter.unusedSimpArgs false

theorem cells_all {w : World} {b off : Nat} {xs : List Int} (hc : ∀ i, i < xs.length → w.cell? ⟨b, off + i, none⟩ = some (.int .i64 (xs.getD i 0))) :
    ∀ j u, (xs.map (Value.int .i64))[j]? = some u → w.cell? ((⟨b, off, none⟩ : Addr).add j) = some u := by
  have := cells_at (w := w) (b := b) (off := off) (k := xs.length) (xs := xs) hc (Nat.le_refl _)
  rwa [List.take_length] at this
set_option maxHeartbeats 2000000 in
theorem lowS_any (a : Option Addr) (n c h : Nat) (xs : List Int) (w : World) (hx : Arg w a n c xs) (h1 : n ≤ 1048576) (hh : h ≤ 1000000) :
    Calls Try.prog 103 #[.slice a n c, .int .i64 h] w fun e w' => ∃ a1 n1 c1, e = .returned (.slice a1 n1 c1) ∧ Below w.heap.size w w' ∧ Arg w' a1 n1 c1 (trim (xs.take h)) := by
  by_cases hle : n ≤ h
  · have HX := hide hx
    have HE : Hid (xs.take h = xs) := hide (List.take_of_length_le (by rw [hx.len]; exact hle))
    have e1 : (n : Int) ≤ (h : Int) := by omega
    clear hx
    go_enter Try.func103, Try.ntmps103
    go_wp2_with fail
    refine (cut_any a n c xs w (unhide HX) h1).mono ?_
    rintro e w1 ⟨a1, n1, c1, rfl, hb, ho, ha⟩
    have HF := hide (And.intro hb ha)
    clear hb ho ha
    go_wp2_with fail
    go_ret
    exact ⟨a1, n1, c1, rfl, (unhide HF).1, by rw [unhide HE]; exact (unhide HF).2⟩
  · rcases hx.addr with ⟨rfl, rfl⟩ | ⟨b, off, rfl⟩
    · have := hx.cap; omega
    · have hcm := hx.top
      have hnc := hx.cap
      unfold maxLen at hcm
      have HX := hide hx
      have e1 : ¬ (n : Int) ≤ (h : Int) := by omega
      have e2 : (h : Int) ≤ (c : Int) := by omega
      have e3 : h ≤ c := by omega
      have e4 : (0 : Int) ≤ (h : Int) := by omega
      have HT : Hid ((xs.take h).length = h) := hide (by rw [List.length_take, hx.len]; omega)
      clear hx
      go_enter Try.func103, Try.ntmps103
      go_wp2_with fail
      refine (cut_any _ h c (xs.take h) w ⟨(unhide HX).sl.take h, unhide HT, e3, by unfold maxLen; omega, .inr ⟨_, _, rfl⟩⟩ (by omega)).mono ?_
      rintro e w1 ⟨a1, n1, c1, rfl, hb, ho, ha⟩
      have HF := hide (And.intro hb ha)
      clear hb ho ha
      go_wp2_with fail
      go_ret
      exact ⟨a1, n1, c1, rfl, (unhide HF).1, (unhide HF).2⟩
set_option maxHeartbeats 2000000 in
theorem highS_any (a : Option Addr) (n c h : Nat) (xs : List Int) (w : World) (hx : Arg w a n c xs) (tx : trim xs = xs) (h1 : n ≤ 1048576) (hh : h ≤ 1000000) :
    Calls Try.prog 104 #[.slice a n c, .int .i64 h] w fun e w' => ∃ a1 n1 c1, e = .returned (.slice a1 n1 c1) ∧ Below w.heap.size w w' ∧ Arg w' a1 n1 c1 (xs.drop h) := by
  by_cases hle : n ≤ h
  · have HE : Hid (xs.drop h = []) := hide (List.drop_of_length_le (by rw [hx.len]; exact hle))
    have e1 : (n : Int) ≤ (h : Int) := by omega
    clear hx
    go_enter Try.func104, Try.ntmps104
    go_wp2_with fail
    go_ret
    exact ⟨none, 0, 0, rfl, Below.refl _ _, by rw [unhide HE]; exact Arg.none _⟩
  · rcases hx.addr with ⟨rfl, rfl⟩ | ⟨b, off, rfl⟩
    · have := hx.cap; omega
    · have hcm := hx.top
      have hnc := hx.cap
      unfold maxLen at hcm
      have HX := hide hx
      have HTr := hide (trim_drop tx h)
      have e1 : ¬ (n : Int) ≤ (h : Int) := by omega
      have e2 : (h : Int) ≤ (n : Int) := by omega
      have e3 : (n : Int) ≤ (c : Int) := by omega
      have e4 : (0 : Int) ≤ (h : Int) := by omega
      have e5 : ¬ c = h := by omega
      have HD : Hid ((xs.drop h).length = n - h) := hide (by rw [List.length_drop, hx.len])
      have HS : Hid (Sl w (some ⟨b, off + h, none⟩) (xs.drop h)) := hide (by
        rcases hx.sl with rfl | ⟨b', off', e, hb, hc⟩
        · exact .inl (by simp)
        · cases e
          refine .inr ⟨b, off + h, rfl, hb, fun i hi => ?_⟩
          rw [List.length_drop] at hi
          have := hc (h + i) (by omega)
          rw [show off + h + i = off + (h + i) by omega, this]
          simp only [List.getD_eq_getElem?_getD, List.getElem?_drop])
      clear hx tx
      go_enter Try.func104, Try.ntmps104
      go_wp2_with fail
      refine (cut_any _ (n - h) (c - h) (xs.drop h) w ⟨unhide HS, unhide HD, by omega, by unfold maxLen; omega, .inr ⟨_, _, rfl⟩⟩ (by omega)).mono ?_
      rintro e w1 ⟨a1, n1, c1, rfl, hb, ho, ha⟩
      rw [unhide HTr] at ha
      have HF := hide (And.intro hb ha)
      clear hb ho ha
      go_wp2_with fail
      go_ret
      exact ⟨a1, n1, c1, rfl, (unhide HF).1, (unhide HF).2⟩
set_option maxHeartbeats 2000000 in
theorem shiftS_any (a : Option Addr) (n c : Nat) (B : Int) (b : Nat) (hB : B = b) (xs : List Int) (w : World) (hx : Arg w a n c xs) (ox : okL xs) (h1 : n ≤ 500000) (hb : b ≤ 500000) :
    Calls Try.prog 106 #[.slice a n c, .int .i64 B] w (OutU w (65536 ^ b * val xs) (b + n)) := by
  subst hB
  obtain ⟨i0, hi, hz0, hz1, hz2⟩ := info_parts Try.info3
  by_cases hn0 : n = 0
  · subst hn0
    have HE : Hid (xs = []) := hide (List.length_eq_zero_iff.1 hx.len)
    clear hx
    go_enter Try.func106, Try.ntmps106
    go_wp2_with fail
    go_ret
    exact ⟨none, 0, 0, [], rfl, Below.refl _ _, .inl rfl, Arg.none _, okL_nil, by rw [unhide HE]; simp [val], Nat.zero_le _⟩
  · rcases hx.sl with rfl | ⟨bb, off, rfl, hbb, hc⟩
    · have := hx.len; simp at this; omega
    · have HL := hide hx.len
      have HC := hide hc
      have hne : ((n : Int) == 0) = false := by simp; omega
      clear hx hc
      go_enter Try.func106, Try.ntmps106
      go_wp2_with (first
        | (at_make; refine wpList_make_full _ rfl _ _ 23 rfl w.heap.size 3 i0 (.int .i64 0) 1 Try.underlying23 hi hz0 hz1 .i64 .i64 _ _ b rfl rfl rfl rfl (by rw [hz2]; omega) (by unfold maxLen; omega) (Nat.le_refl _) ?_; intro w1 hown hgrow; have HO1 : Hid (w1.ownsRow w.heap.size 3 1 (.slice (some ⟨w.heap.size, 0, none⟩) b b) b ((List.replicate b 0).map (Value.int .i64))) := (by rw [Nat.mul_one] at hown; rw [← made_ints]; exact hide hown); have HB1 := hide ((Below.refl w.heap.size w).grown hgrow (Nat.le_refl _) (fun k e => by cases e)); have HC1 : Hid (∀ q u, (xs.map (Value.int .i64))[q]? = some u → w1.cell? ((⟨bb, off, none⟩ : Addr).add q) = some u) := hide (cells_all (w := w1) (fun i hi => ((unhide HB1).cell (by exact hbb)).trans (unhide HC i hi))); clear hown hgrow)
        | (at_builtin; refine wpList_append_own _ rfl (.tmp 9) (.tmp 10) 23 rfl w.heap.size 3 i0 (.int .i64 0) 1 8 Try.underlying23 hi hz0 hz1 hz2 rfl (by decide) _ _ _ rfl (unhide HO1) ⟨bb, off, none⟩ n c (xs.map (Value.int .i64)) rfl (by simp; exact unhide HL) (unhide HC1) (one_cells _) (by unfold maxLen; omega) (by omega) (unhide HB1).size ?_))
      intro v' w2 hown2 hg2 _
      have HR : Hid (w2.ownsRow w.heap.size 3 1 v' (b + n) ((List.replicate b 0 ++ xs).map (Value.int .i64))) := hide (by simpa using hown2)
      have HB2 : Hid (Below w.heap.size w w2) := hide ((unhide HB1).grown hg2 (unhide HB1).size (fun k e => by simp [Value.ownBlock] at e; omega))
      have hl : (List.replicate b 0 ++ xs).length = b + n := by simp; exact unhide HL
      obtain ⟨a2, c2, rfl, ho, ha⟩ := owns_shape (unhide HR) hl
      have HF := hide (And.intro ho ha)
      have HLL := hide hl
      clear hown2 hg2 ho ha hl
      go_wp2_with fail
      go_ret
      exact ⟨a2, _, c2, _, rfl, unhide HB2, (unhide HF).1, (unhide HF).2, okL_zeros b ox, val_zeros b xs, by rw [unhide HLL]; exact Nat.le_refl _⟩
end Go.Proofs.Ytagnhgefdcckoaa
namespace Go.Proofs.Ytagnhgefdcckoaa
open Go.RowKit
set_option linter.unusedVariables false
set_option maxRecDepth 100000
set_option linter.unusedSimpArgs false

def HalvSaidS (k : Nat) : Prop := ∀ (a a' : Option Addr) (n m c c' : Nat) (xs ys : List Int) (X Y : Int) (w : World), At w a n c xs X → At w a' m c' ys Y → X + Y ≤ k → n ≤ 200000 → m ≤ 200000 →
  Calls Try.prog 54 #[.slice a n c, .slice a' m c'] w (Out w (X * Y))

set_option maxHeartbeats 4000000 in
theorem halvS_small (a a' : Option Addr) (n m c c' : Nat) (xs ys : List Int) (X Y : Int) (w : World) (hx : At w a n c xs X) (hy : At w a' m c' ys Y) (h1 : n ≤ 2) (h2 : m ≤ 2) :
    Calls Try.prog 54 #[.slice a n c, .slice a' m c'] w (Out w (X * Y)) := by
  have HX := hide hx
  have HY := hide hy
  clear hx hy
  have CM : Hid (Calls Try.prog 71 #[.slice a n c, .slice a' m c'] w (Out w (X * Y))) := hide (by
    have := mulS_any a a' n m c c' xs ys w (unhide HX).arg (unhide HY).arg (unhide HX).nm.ok (unhide HY).nm.ok (by omega) (by omega)
    rw [(unhide HX).nm.v, (unhide HY).nm.v] at this
    exact this)
  by_cases hnm : n < m
  · have e2 : (m : Int) ≤ 2 := by omega
    go_enter Try.func54, Try.ntmps54
    go_wp2_with fail
    refine (unhide CM).mono ?_
    rintro e w1 ⟨a1, n1, c1, zs, rfl, hb1, ho1, ha1, hn1⟩
    have HF := hide (And.intro hb1 (And.intro ho1 (And.intro ha1 hn1)))
    clear hb1 ho1 ha1 hn1 CM
    go_wp2_with fail
    go_ret
    exact ⟨a1, n1, c1, zs, rfl, (unhide HF).1, (unhide HF).2.1, (unhide HF).2.2.1, (unhide HF).2.2.2⟩
  · have e2 : (n : Int) ≤ 2 := by omega
    go_enter Try.func54, Try.ntmps54
    go_wp2_with fail
    refine (unhide CM).mono ?_
    rintro e w1 ⟨a1, n1, c1, zs, rfl, hb1, ho1, ha1, hn1⟩
    have HF := hide (And.intro hb1 (And.intro ho1 (And.intro ha1 hn1)))
    clear hb1 ho1 ha1 hn1 CM
    go_wp2_with fail
    go_ret
    exact ⟨a1, n1, c1, zs, rfl, (unhide HF).1, (unhide HF).2.1, (unhide HF).2.2.1, (unhide HF).2.2.2⟩

set_option maxRecDepth 100000 in
set_option maxHeartbeats 8000000 in
theorem halvS_step_lt (k : Nat) (IH : Hid (HalvSaidS k)) (a a' : Option Addr) (n m c c' h : Nat) (xs ys : List Int) (X Y : Int) (w : World) (hx : At w a n c xs X) (hy : At w a' m c' ys Y) (hk : X + Y ≤ k + 1) (h1 : n ≤ 200000) (h2 : m ≤ 200000) (hnm : n < m) (hN : 3 ≤ m) (hh : ((m : Nat) : Int) / 2 = (h : Int)) :
    Calls Try.prog 54 #[.slice a n c, .slice a' m c'] w (Out w (X * Y)) := by
  have HX := hide hx
  have HY := hide hy
  have hh1 : 1 ≤ h := by omega
  have hh2 : h ≤ 100000 := by omega
  obtain ⟨L, HLe⟩ : ∃ L, Hid (val (xs.take h) = L) := ⟨_, hide rfl⟩
  obtain ⟨H, HHe⟩ : ∃ H, Hid (val (xs.drop h) = H) := ⟨_, hide rfl⟩
  obtain ⟨L', HLe'⟩ : ∃ L', Hid (val (ys.take h) = L') := ⟨_, hide rfl⟩
  obtain ⟨H', HHe'⟩ : ∃ H', Hid (val (ys.drop h) = H') := ⟨_, hide rfl⟩
  have PX : Hid (X = L + 65536 ^ h * H) := hide (by rw [← unhide HLe, ← unhide HHe, ← part_val, hx.nm.v])
  have PY : Hid (Y = L' + 65536 ^ h * H') := hide (by rw [← unhide HLe', ← unhide HHe', ← part_val, hy.nm.v])
  have L0 : Hid (0 ≤ L) := hide (by rw [← unhide HLe]; exact val_nonneg (okL_take hx.nm.ok h))
  have H0 : Hid (0 ≤ H) := hide (by rw [← unhide HHe]; exact val_nonneg (okL_drop hx.nm.ok h))
  have L0' : Hid (0 ≤ L') := hide (by rw [← unhide HLe']; exact val_nonneg (okL_take hy.nm.ok h))
  have H0' : Hid (0 ≤ H') := hide (by rw [← unhide HHe']; exact val_nonneg (okL_drop hy.nm.ok h))
  have HP : Hid ((65536 : Int) ≤ 65536 ^ h) := hide (by have := pow_mono hh1; simpa using this)
  have HM1 : Hid (65536 * H ≤ 65536 ^ h * H) := hide (Int.mul_le_mul_of_nonneg_right (unhide HP) (unhide H0))
  have HM2 : Hid (65536 * H' ≤ 65536 ^ h * H') := hide (Int.mul_le_mul_of_nonneg_right (unhide HP) (unhide H0'))
  have HT : Hid (0 < H + H') := hide (by
    have nx := (val_zero_iff (okL_drop hx.nm.ok h) (trim_drop hx.nm.tr h))
    have ny := (val_zero_iff (okL_drop hy.nm.ok h) (trim_drop hy.nm.tr h))
    rw [unhide HHe] at nx
    rw [unhide HHe'] at ny
    have hp := unhide H0
    have hp' := unhide H0'
    by_cases hz : H = 0
    · by_cases hz' : H' = 0
      · have e1 := congrArg List.length (nx.1 hz)
        have e2 := congrArg List.length (ny.1 hz')
        rw [List.length_drop, List.length_nil, hx.arg.len] at e1
        rw [List.length_drop, List.length_nil, hy.arg.len] at e2
        omega
      · omega
    · omega)
  have D1 : Hid (L + L' ≤ k) := hide (by have := unhide PX; have := unhide PY; have := unhide HM1; have := unhide HM2; have := unhide HT; have := unhide H0; have := unhide H0'; omega)
  have D2 : Hid (H + H' ≤ k) := hide (by have := unhide PX; have := unhide PY; have := unhide HM1; have := unhide HM2; have := unhide HT; have := unhide L0; have := unhide L0'; have := unhide H0; have := unhide H0'; omega)
  have D3 : Hid ((L + H) + (L' + H') ≤ k) := hide (by have := unhide PX; have := unhide PY; have := unhide HM1; have := unhide HM2; have := unhide HT; have := unhide H0; have := unhide H0'; omega)
  have X1 : Hid (L ≤ X ∧ H ≤ X ∧ L + H ≤ X) := hide (by have := unhide PX; have := unhide HM1; have := unhide H0; have := unhide L0; omega)
  have Y1 : Hid (L' ≤ Y ∧ H' ≤ Y ∧ L' + H' ≤ Y) := hide (by have := unhide PY; have := unhide HM2; have := unhide H0'; have := unhide L0'; omega)
  have TX := hide hx.nm
  have TY := hide hy.nm
  clear hx hy hk
  have e2 : ¬ (m : Int) ≤ 2 := by omega
  have NL : Hid (Nm (trim (xs.take h)) L) := hide (by rw [← unhide HLe]; exact Nm.trimmed (okL_take (unhide TX).ok h))
  have NH : Hid (Nm (xs.drop h) H) := hide ⟨okL_drop (unhide TX).ok h, trim_drop (unhide TX).tr h, unhide HHe⟩
  have NL' : Hid (Nm (trim (ys.take h)) L') := hide (by rw [← unhide HLe']; exact Nm.trimmed (okL_take (unhide TY).ok h))
  have NH' : Hid (Nm (ys.drop h) H') := hide ⟨okL_drop (unhide TY).ok h, trim_drop (unhide TY).tr h, unhide HHe'⟩
  go_enter Try.func54, Try.ntmps54
  go_wp2_with fail
  refine (lowS_any a n c h xs w (unhide HX).arg (by omega) (by omega)).mono ?_
  rintro e w1 ⟨aAL, nAL, cAL, rfl, hb, g⟩
  have AL : Hid (At w1 aAL nAL cAL _ L) := hide ⟨g, unhide NL⟩
  have bAL : nAL ≤ 200000 := Nat.le_trans ((unhide AL).le (unhide HX) (unhide X1).1) h1
  replace HX := hide ((unhide HX).later hb)
  replace HY := hide ((unhide HY).later hb)
  have HB := hide hb
  clear hb g
  go_wp2_with fail
  refine (lowS_any a' m c' h ys w1 (unhide HY).arg (by omega) (by omega)).mono ?_
  rintro e w2 ⟨aBL, nBL, cBL, rfl, hb, g⟩
  have BL : Hid (At w2 aBL nBL cBL _ L') := hide ⟨g, unhide NL'⟩
  have bBL : nBL ≤ 200000 := Nat.le_trans ((unhide BL).le (unhide HY) (unhide Y1).1) h2
  replace HX := hide ((unhide HX).later hb)
  replace HY := hide ((unhide HY).later hb)
  replace AL := hide ((unhide AL).later hb)
  replace HB := hide (below_on (unhide HB) hb)
  clear hb g
  go_wp2_with fail
  refine (unhide IH _ _ _ _ _ _ _ _ _ _ w2 (unhide AL) (unhide BL) (unhide D1) bAL bBL).mono ?_
  rintro e w3 ⟨aLO, nLO, cLO, zLO, rfl, hb, ho, ha, hn⟩
  have LO : Hid (At w3 aLO nLO cLO zLO (L * L')) := hide ⟨ha, hn⟩
  replace HX := hide ((unhide HX).later hb)
  replace HY := hide ((unhide HY).later hb)
  replace AL := hide ((unhide AL).later hb)
  replace BL := hide ((unhide BL).later hb)
  replace HB := hide (below_on (unhide HB) hb)
  clear hb ho ha hn
  have bLO : nLO ≤ 400000 := by have := len_mul (unhide AL) (unhide BL) (unhide LO); omega
  go_wp2_with fail
  refine (highS_any a n c h xs w3 (unhide HX).arg (unhide TX).tr (by omega) (by omega)).mono ?_
  rintro e w4 ⟨aAH, nAH, cAH, rfl, hb, g⟩
  have AH : Hid (At w4 aAH nAH cAH _ H) := hide ⟨g, unhide NH⟩
  have bAH : nAH ≤ 200000 := Nat.le_trans ((unhide AH).le (unhide HX) (unhide X1).2.1) h1
  replace HX := hide ((unhide HX).later hb)
  replace HY := hide ((unhide HY).later hb)
  replace LO := hide ((unhide LO).later hb)
  replace HB := hide (below_on (unhide HB) hb)
  clear hb g
  go_wp2_with fail
  refine (highS_any a' m c' h ys w4 (unhide HY).arg (unhide TY).tr (by omega) (by omega)).mono ?_
  rintro e w5 ⟨aBH, nBH, cBH, rfl, hb, g⟩
  have BH : Hid (At w5 aBH nBH cBH _ H') := hide ⟨g, unhide NH'⟩
  have bBH : nBH ≤ 200000 := Nat.le_trans ((unhide BH).le (unhide HY) (unhide Y1).2.1) h2
  replace HX := hide ((unhide HX).later hb)
  replace HY := hide ((unhide HY).later hb)
  replace LO := hide ((unhide LO).later hb)
  replace AH := hide ((unhide AH).later hb)
  replace HB := hide (below_on (unhide HB) hb)
  clear hb g
  go_wp2_with fail
  refine (unhide IH _ _ _ _ _ _ _ _ _ _ w5 (unhide AH) (unhide BH) (unhide D2) bAH bBH).mono ?_
  rintro e w6 ⟨aHI, nHI, cHI, zHI, rfl, hb, ho, ha, hn⟩
  have HI : Hid (At w6 aHI nHI cHI zHI (H * H')) := hide ⟨ha, hn⟩
  replace HX := hide ((unhide HX).later hb)
  replace HY := hide ((unhide HY).later hb)
  replace LO := hide ((unhide LO).later hb)
  replace AH := hide ((unhide AH).later hb)
  replace BH := hide ((unhide BH).later hb)
  replace HB := hide (below_on (unhide HB) hb)
  clear hb ho ha hn
  have bHI : nHI ≤ 400000 := by have := len_mul (unhide AH) (unhide BH) (unhide HI); omega
  go_wp2_with fail
  refine (lowS_any a n c h xs w6 (unhide HX).arg (by omega) (by omega)).mono ?_
  rintro e w7 ⟨aCL, nCL, cCL, rfl, hb, g⟩
  have CL : Hid (At w7 aCL nCL cCL _ L) := hide ⟨g, unhide NL⟩
  have bCL : nCL ≤ 200000 := Nat.le_trans ((unhide CL).le (unhide HX) (unhide X1).1) h1
  replace HX := hide ((unhide HX).later hb)
  replace HY := hide ((unhide HY).later hb)
  replace LO := hide ((unhide LO).later hb)
  replace HI := hide ((unhide HI).later hb)
  replace HB := hide (below_on (unhide HB) hb)
  clear hb g
  go_wp2_with fail
  refine (highS_any a n c h xs w7 (unhide HX).arg (unhide TX).tr (by omega) (by omega)).mono ?_
  rintro e w8 ⟨aCH, nCH, cCH, rfl, hb, g⟩
  have CH : Hid (At w8 aCH nCH cCH _ H) := hide ⟨g, unhide NH⟩
  have bCH : nCH ≤ 200000 := Nat.le_trans ((unhide CH).le (unhide HX) (unhide X1).2.1) h1
  replace HX := hide ((unhide HX).later hb)
  replace HY := hide ((unhide HY).later hb)
  replace LO := hide ((unhide LO).later hb)
  replace HI := hide ((unhide HI).later hb)
  replace CL := hide ((unhide CL).later hb)
  replace HB := hide (below_on (unhide HB) hb)
  clear hb g
  have CSA : Hid (Calls Try.prog 70 #[.slice aCL nCL cCL, .slice aCH nCH cCH] w8 (Out w8 (L + H))) := hide (by have := addT_any aCL aCH nCL nCH cCL cCH _ _ w8 (unhide CL).arg (unhide CH).arg (unhide CL).nm.ok (unhide CH).nm.ok (unhide CL).nm.tr (unhide CH).nm.tr (by omega) (by omega); rw [(unhide CL).nm.v, (unhide CH).nm.v] at this; exact this)
  go_wp2_with fail
  refine (unhide CSA).mono ?_
  rintro e w9 ⟨aSA, nSA, cSA, zSA, rfl, hb, ho, ha, hn⟩
  have SA : Hid (At w9 aSA nSA cSA zSA (L + H)) := hide ⟨ha, hn⟩
  clear CSA
  replace HX := hide ((unhide HX).later hb)
  replace HY := hide ((unhide HY).later hb)
  replace LO := hide ((unhide LO).later hb)
  replace HI := hide ((unhide HI).later hb)
  replace CL := hide ((unhide CL).later hb)
  replace CH := hide ((unhide CH).later hb)
  replace HB := hide (below_on (unhide HB) hb)
  clear hb ho ha hn
  go_wp2_with fail
  refine (lowS_any a' m c' h ys w9 (unhide HY).arg (by omega) (by omega)).mono ?_
  rintro e w10 ⟨aDL, nDL, cDL, rfl, hb, g⟩
  have DL : Hid (At w10 aDL nDL cDL _ L') := hide ⟨g, unhide NL'⟩
  have bDL : nDL ≤ 200000 := Nat.le_trans ((unhide DL).le (unhide HY) (unhide Y1).1) h2
  replace HX := hide ((unhide HX).later hb)
  replace HY := hide ((unhide HY).later hb)
  replace LO := hide ((unhide LO).later hb)
  replace HI := hide ((unhide HI).later hb)
  replace SA := hide ((unhide SA).later hb)
  replace HB := hide (below_on (unhide HB) hb)
  clear hb g
  go_wp2_with fail
  refine (highS_any a' m c' h ys w10 (unhide HY).arg (unhide TY).tr (by omega) (by omega)).mono ?_
  rintro e w11 ⟨aDH, nDH, cDH, rfl, hb, g⟩
  have DH : Hid (At w11 aDH nDH cDH _ H') := hide ⟨g, unhide NH'⟩
  have bDH : nDH ≤ 200000 := Nat.le_trans ((unhide DH).le (unhide HY) (unhide Y1).2.1) h2
  replace HX := hide ((unhide HX).later hb)
  replace HY := hide ((unhide HY).later hb)
  replace LO := hide ((unhide LO).later hb)
  replace HI := hide ((unhide HI).later hb)
  replace SA := hide ((unhide SA).later hb)
  replace DL := hide ((unhide DL).later hb)
  replace HB := hide (below_on (unhide HB) hb)
  clear hb g
  have CSB : Hid (Calls Try.prog 70 #[.slice aDL nDL cDL, .slice aDH nDH cDH] w11 (Out w11 (L' + H'))) := hide (by have := addT_any aDL aDH nDL nDH cDL cDH _ _ w11 (unhide DL).arg (unhide DH).arg (unhide DL).nm.ok (unhide DH).nm.ok (unhide DL).nm.tr (unhide DH).nm.tr (by omega) (by omega); rw [(unhide DL).nm.v, (unhide DH).nm.v] at this; exact this)
  go_wp2_with fail
  refine (unhide CSB).mono ?_
  rintro e w12 ⟨aSB, nSB, cSB, zSB, rfl, hb, ho, ha, hn⟩
  have SB : Hid (At w12 aSB nSB cSB zSB (L' + H')) := hide ⟨ha, hn⟩
  clear CSB
  replace HX := hide ((unhide HX).later hb)
  replace HY := hide ((unhide HY).later hb)
  replace LO := hide ((unhide LO).later hb)
  replace HI := hide ((unhide HI).later hb)
  replace SA := hide ((unhide SA).later hb)
  replace DL := hide ((unhide DL).later hb)
  replace DH := hide ((unhide DH).later hb)
  replace HB := hide (below_on (unhide HB) hb)
  clear hb ho ha hn
  have bSA : nSA ≤ 200000 := Nat.le_trans ((unhide SA).le (unhide HX) (unhide X1).2.2) h1
  have bSB : nSB ≤ 200000 := Nat.le_trans ((unhide SB).le (unhide HY) (unhide Y1).2.2) h2
  go_wp2_with fail
  refine (unhide IH _ _ _ _ _ _ _ _ _ _ w12 (unhide SA) (unhide SB) (unhide D3) bSA bSB).mono ?_
  rintro e w13 ⟨aBO, nBO, cBO, zBO, rfl, hb, ho, ha, hn⟩
  have BO : Hid (At w13 aBO nBO cBO zBO ((L + H) * (L' + H'))) := hide ⟨ha, hn⟩
  replace HX := hide ((unhide HX).later hb)
  replace HY := hide ((unhide HY).later hb)
  replace LO := hide ((unhide LO).later hb)
  replace HI := hide ((unhide HI).later hb)
  replace SA := hide ((unhide SA).later hb)
  replace SB := hide ((unhide SB).later hb)
  replace HB := hide (below_on (unhide HB) hb)
  clear hb ho ha hn
  have bBO : nBO ≤ 400000 := by have := len_mul (unhide SA) (unhide SB) (unhide BO); omega
  have ML := hide (mid_le (unhide L0) (unhide H0) (unhide L0') (unhide H0'))
  have LL0 : Hid (0 ≤ L * L') := hide (Int.mul_nonneg (unhide L0) (unhide L0'))
  have HH0 : Hid (0 ≤ H * H') := hide (Int.mul_nonneg (unhide H0) (unhide H0'))
  have CS1 : Hid (Calls Try.prog 105 #[.slice aBO nBO cBO, .slice aLO nLO cLO] w13 (Out w13 ((L + H) * (L' + H') - L * L'))) := hide (by have := subS_any aBO aLO nBO nLO cBO cLO _ _ w13 (unhide BO).arg (unhide LO).arg (unhide BO).nm.ok (unhide LO).nm.ok (by omega) ((unhide LO).le (unhide BO) (unhide ML).1) (by rw [(unhide BO).nm.v, (unhide LO).nm.v]; exact (unhide ML).1); rw [(unhide BO).nm.v, (unhide LO).nm.v] at this; exact this)
  go_wp2_with fail
  refine (unhide CS1).mono ?_
  rintro e w14 ⟨aS1, nS1, cS1, zS1, rfl, hb, ho, ha, hn⟩
  have S1 : Hid (At w14 aS1 nS1 cS1 zS1 ((L + H) * (L' + H') - L * L')) := hide ⟨ha, hn⟩
  clear CS1
  replace LO := hide ((unhide LO).later hb)
  replace HI := hide ((unhide HI).later hb)
  replace BO := hide ((unhide BO).later hb)
  replace HB := hide (below_on (unhide HB) hb)
  clear hb ho ha hn
  have bS1 : nS1 ≤ 400000 := Nat.le_trans ((unhide S1).le (unhide BO) (by have := unhide LL0; omega)) bBO
  have CMI : Hid (Calls Try.prog 105 #[.slice aS1 nS1 cS1, .slice aHI nHI cHI] w14 (Out w14 ((L + H) * (L' + H') - L * L' - H * H'))) := hide (by have := subS_any aS1 aHI nS1 nHI cS1 cHI _ _ w14 (unhide S1).arg (unhide HI).arg (unhide S1).nm.ok (unhide HI).nm.ok (by omega) ((unhide HI).le (unhide S1) (unhide ML).2) (by rw [(unhide S1).nm.v, (unhide HI).nm.v]; exact (unhide ML).2); rw [(unhide S1).nm.v, (unhide HI).nm.v] at this; exact this)
  go_wp2_with fail
  refine (unhide CMI).mono ?_
  rintro e w15 ⟨aMI, nMI, cMI, zMI, rfl, hb, ho, ha, hn⟩
  have MI : Hid (At w15 aMI nMI cMI zMI ((L + H) * (L' + H') - L * L' - H * H')) := hide ⟨ha, hn⟩
  clear CMI
  replace LO := hide ((unhide LO).later hb)
  replace HI := hide ((unhide HI).later hb)
  replace BO := hide ((unhide BO).later hb)
  replace S1 := hide ((unhide S1).later hb)
  replace HB := hide (below_on (unhide HB) hb)
  clear hb ho ha hn
  have bMI : nMI ≤ 400000 := Nat.le_trans ((unhide MI).le (unhide S1) (by have := unhide HH0; omega)) bS1
  go_wp2_with fail
  refine (shiftS_any aMI nMI cMI _ h rfl zMI w15 (unhide MI).arg (unhide MI).nm.ok (by omega) (by omega)).mono ?_
  rintro e w16 ⟨a8, n8, c8, z8, rfl, hb, ho, ha, hk8, hv8, hl8⟩
  have M8 := hide (And.intro ha (And.intro hk8 hv8))
  have b8 : n8 ≤ 600000 := by rw [← ha.len]; omega
  replace LO := hide ((unhide LO).later hb)
  replace HI := hide ((unhide HI).later hb)
  replace MI := hide ((unhide MI).later hb)
  replace HB := hide (below_on (unhide HB) hb)
  clear hb ho ha hk8 hv8 hl8
  go_wp2_with fail
  refine (shiftS_any aHI nHI cHI _ (2 * h) (by omega) zHI w16 (unhide HI).arg (unhide HI).nm.ok (by omega) (by omega)).mono ?_
  rintro e w17 ⟨a9, n9, c9, z9, rfl, hb, ho, ha, hk9, hv9, hl9⟩
  have b9 : n9 ≤ 600000 := by rw [← ha.len]; omega
  have A8 := hide ((unhide M8).1.later hb)
  replace LO := hide ((unhide LO).later hb)
  replace HB := hide (below_on (unhide HB) hb)
  have CA1 := hide (addS_any a8 a9 n8 n9 c8 c9 z8 z9 w17 (unhide A8) ha (unhide M8).2.1 hk9 (by omega) (by omega))
  have HV9 := hide hv9
  clear hb ho ha hk9 hv9 hl9
  go_wp2_with fail
  refine (unhide CA1).mono ?_
  rintro e w18 ⟨a10, n10, c10, z10, rfl, hb, ho, ha, hk, hv, hl⟩
  have b10 : n10 ≤ 600001 := by rw [← ha.len]; omega
  replace LO := hide ((unhide LO).later hb)
  replace HB := hide (below_on (unhide HB) hb)
  have CA2 : Hid (Calls Try.prog 70 #[.slice aLO nLO cLO, .slice a10 n10 c10] w18 (OutU w18 (X * Y) (max nLO n10 + 1))) := hide (by
    have := addS_any aLO a10 nLO n10 cLO c10 zLO z10 w18 (unhide LO).arg ha (unhide LO).nm.ok hk (by omega) (by omega)
    rw [(unhide LO).nm.v, hv, (unhide M8).2.2, unhide HV9, (unhide MI).nm.v, (unhide HI).nm.v] at this
    rw [show (65536 : Int) ^ (2 * h) = 65536 ^ h * 65536 ^ h by rw [← Int.pow_add]; congr 1; omega, kara, ← unhide PX, ← unhide PY] at this
    exact this)
  clear hb ho ha hk hv hl CA1
  go_wp2_with fail
  refine (unhide CA2).mono ?_
  rintro e w19 ⟨a11, n11, c11, z11, rfl, hb, ho, ha, hk, hv, hl⟩
  have b11 : n11 ≤ 700000 := by rw [← ha.len]; omega
  replace HB := hide (below_on (unhide HB) hb)
  have HF := hide (And.intro ha (And.intro hk hv))
  clear hb ho ha hk hv hl CA2
  go_wp2_with fail
  refine (cut_any a11 n11 c11 z11 w19 (unhide HF).1 (by omega)).mono ?_
  rintro e w20 ⟨a12, n12, c12, rfl, hb, ho, ha⟩
  have HG := hide (And.intro (below_on (unhide HB) hb) (And.intro (ho.mono (unhide HB).size) ha))
  clear hb ho ha
  go_wp2_with fail
  go_ret
  exact ⟨a12, n12, c12, _, rfl, (unhide HG).1, (unhide HG).2.1, (unhide HG).2.2, by rw [← (unhide HF).2.2]; exact Nm.trimmed (unhide HF).2.1⟩

set_option maxRecDepth 100000 in
set_option maxHeartbeats 8000000 in
theorem halvS_step_ge (k : Nat) (IH : Hid (HalvSaidS k)) (a a' : Option Addr) (n m c c' h : Nat) (xs ys : List Int) (X Y : Int) (w : World) (hx : At w a n c xs X) (hy : At w a' m c' ys Y) (hk : X + Y ≤ k + 1) (h1 : n ≤ 200000) (h2 : m ≤ 200000) (hnm : ¬ n < m) (hN : 3 ≤ n) (hh : ((n : Nat) : Int) / 2 = (h : Int)) :
    Calls Try.prog 54 #[.slice a n c, .slice a' m c'] w (Out w (X * Y)) := by
  have HX := hide hx
  have HY := hide hy
  have hh1 : 1 ≤ h := by omega
  have hh2 : h ≤ 100000 := by omega
  obtain ⟨L, HLe⟩ : ∃ L, Hid (val (xs.take h) = L) := ⟨_, hide rfl⟩
  obtain ⟨H, HHe⟩ : ∃ H, Hid (val (xs.drop h) = H) := ⟨_, hide rfl⟩
  obtain ⟨L', HLe'⟩ : ∃ L', Hid (val (ys.take h) = L') := ⟨_, hide rfl⟩
  obtain ⟨H', HHe'⟩ : ∃ H', Hid (val (ys.drop h) = H') := ⟨_, hide rfl⟩
  have PX : Hid (X = L + 65536 ^ h * H) := hide (by rw [← unhide HLe, ← unhide HHe, ← part_val, hx.nm.v])
  have PY : Hid (Y = L' + 65536 ^ h * H') := hide (by rw [← unhide HLe', ← unhide HHe', ← part_val, hy.nm.v])
  have L0 : Hid (0 ≤ L) := hide (by rw [← unhide HLe]; exact val_nonneg (okL_take hx.nm.ok h))
  have H0 : Hid (0 ≤ H) := hide (by rw [← unhide HHe]; exact val_nonneg (okL_drop hx.nm.ok h))
  have L0' : Hid (0 ≤ L') := hide (by rw [← unhide HLe']; exact val_nonneg (okL_take hy.nm.ok h))
  have H0' : Hid (0 ≤ H') := hide (by rw [← unhide HHe']; exact val_nonneg (okL_drop hy.nm.ok h))
  have HP : Hid ((65536 : Int) ≤ 65536 ^ h) := hide (by have := pow_mono hh1; simpa using this)
  have HM1 : Hid (65536 * H ≤ 65536 ^ h * H) := hide (Int.mul_le_mul_of_nonneg_right (unhide HP) (unhide H0))
  have HM2 : Hid (65536 * H' ≤ 65536 ^ h * H') := hide (Int.mul_le_mul_of_nonneg_right (unhide HP) (unhide H0'))
  have HT : Hid (0 < H + H') := hide (by
    have nx := (val_zero_iff (okL_drop hx.nm.ok h) (trim_drop hx.nm.tr h))
    have ny := (val_zero_iff (okL_drop hy.nm.ok h) (trim_drop hy.nm.tr h))
    rw [unhide HHe] at nx
    rw [unhide HHe'] at ny
    have hp := unhide H0
    have hp' := unhide H0'
    by_cases hz : H = 0
    · by_cases hz' : H' = 0
      · have e1 := congrArg List.length (nx.1 hz)
        have e2 := congrArg List.length (ny.1 hz')
        rw [List.length_drop, List.length_nil, hx.arg.len] at e1
        rw [List.length_drop, List.length_nil, hy.arg.len] at e2
        omega
      · omega
    · omega)
  have D1 : Hid (L + L' ≤ k) := hide (by have := unhide PX; have := unhide PY; have := unhide HM1; have := unhide HM2; have := unhide HT; have := unhide H0; have := unhide H0'; omega)
  have D2 : Hid (H + H' ≤ k) := hide (by have := unhide PX; have := unhide PY; have := unhide HM1; have := unhide HM2; have := unhide HT; have := unhide L0; have := unhide L0'; have := unhide H0; have := unhide H0'; omega)
  have D3 : Hid ((L + H) + (L' + H') ≤ k) := hide (by have := unhide PX; have := unhide PY; have := unhide HM1; have := unhide HM2; have := unhide HT; have := unhide H0; have := unhide H0'; omega)
  have X1 : Hid (L ≤ X ∧ H ≤ X ∧ L + H ≤ X) := hide (by have := unhide PX; have := unhide HM1; have := unhide H0; have := unhide L0; omega)
  have Y1 : Hid (L' ≤ Y ∧ H' ≤ Y ∧ L' + H' ≤ Y) := hide (by have := unhide PY; have := unhide HM2; have := unhide H0'; have := unhide L0'; omega)
  have TX := hide hx.nm
  have TY := hide hy.nm
  clear hx hy hk
  have e2 : ¬ (n : Int) ≤ 2 := by omega
  have NL : Hid (Nm (trim (xs.take h)) L) := hide (by rw [← unhide HLe]; exact Nm.trimmed (okL_take (unhide TX).ok h))
  have NH : Hid (Nm (xs.drop h) H) := hide ⟨okL_drop (unhide TX).ok h, trim_drop (unhide TX).tr h, unhide HHe⟩
  have NL' : Hid (Nm (trim (ys.take h)) L') := hide (by rw [← unhide HLe']; exact Nm.trimmed (okL_take (unhide TY).ok h))
  have NH' : Hid (Nm (ys.drop h) H') := hide ⟨okL_drop (unhide TY).ok h, trim_drop (unhide TY).tr h, unhide HHe'⟩
  go_enter Try.func54, Try.ntmps54
  go_wp2_with fail
  refine (lowS_any a n c h xs w (unhide HX).arg (by omega) (by omega)).mono ?_
  rintro e w1 ⟨aAL, nAL, cAL, rfl, hb, g⟩
  have AL : Hid (At w1 aAL nAL cAL _ L) := hide ⟨g, unhide NL⟩
  have bAL : nAL ≤ 200000 := Nat.le_trans ((unhide AL).le (unhide HX) (unhide X1).1) h1
  replace HX := hide ((unhide HX).later hb)
  replace HY := hide ((unhide HY).later hb)
  have HB := hide hb
  clear hb g
  go_wp2_with fail
  refine (lowS_any a' m c' h ys w1 (unhide HY).arg (by omega) (by omega)).mono ?_
  rintro e w2 ⟨aBL, nBL, cBL, rfl, hb, g⟩
  have BL : Hid (At w2 aBL nBL cBL _ L') := hide ⟨g, unhide NL'⟩
  have bBL : nBL ≤ 200000 := Nat.le_trans ((unhide BL).le (unhide HY) (unhide Y1).1) h2
  replace HX := hide ((unhide HX).later hb)
  replace HY := hide ((unhide HY).later hb)
  replace AL := hide ((unhide AL).later hb)
  replace HB := hide (below_on (unhide HB) hb)
  clear hb g
  go_wp2_with fail
  refine (unhide IH _ _ _ _ _ _ _ _ _ _ w2 (unhide AL) (unhide BL) (unhide D1) bAL bBL).mono ?_
  rintro e w3 ⟨aLO, nLO, cLO, zLO, rfl, hb, ho, ha, hn⟩
  have LO : Hid (At w3 aLO nLO cLO zLO (L * L')) := hide ⟨ha, hn⟩
  replace HX := hide ((unhide HX).later hb)
  replace HY := hide ((unhide HY).later hb)
  replace AL := hide ((unhide AL).later hb)
  replace BL := hide ((unhide BL).later hb)
  replace HB := hide (below_on (unhide HB) hb)
  clear hb ho ha hn
  have bLO : nLO ≤ 400000 := by have := len_mul (unhide AL) (unhide BL) (unhide LO); omega
  go_wp2_with fail
  refine (highS_any a n c h xs w3 (unhide HX).arg (unhide TX).tr (by omega) (by omega)).mono ?_
  rintro e w4 ⟨aAH, nAH, cAH, rfl, hb, g⟩
  have AH : Hid (At w4 aAH nAH cAH _ H) := hide ⟨g, unhide NH⟩
  have bAH : nAH ≤ 200000 := Nat.le_trans ((unhide AH).le (unhide HX) (unhide X1).2.1) h1
  replace HX := hide ((unhide HX).later hb)
  replace HY := hide ((unhide HY).later hb)
  replace LO := hide ((unhide LO).later hb)
  replace HB := hide (below_on (unhide HB) hb)
  clear hb g
  go_wp2_with fail
  refine (highS_any a' m c' h ys w4 (unhide HY).arg (unhide TY).tr (by omega) (by omega)).mono ?_
  rintro e w5 ⟨aBH, nBH, cBH, rfl, hb, g⟩
  have BH : Hid (At w5 aBH nBH cBH _ H') := hide ⟨g, unhide NH'⟩
  have bBH : nBH ≤ 200000 := Nat.le_trans ((unhide BH).le (unhide HY) (unhide Y1).2.1) h2
  replace HX := hide ((unhide HX).later hb)
  replace HY := hide ((unhide HY).later hb)
  replace LO := hide ((unhide LO).later hb)
  replace AH := hide ((unhide AH).later hb)
  replace HB := hide (below_on (unhide HB) hb)
  clear hb g
  go_wp2_with fail
  refine (unhide IH _ _ _ _ _ _ _ _ _ _ w5 (unhide AH) (unhide BH) (unhide D2) bAH bBH).mono ?_
  rintro e w6 ⟨aHI, nHI, cHI, zHI, rfl, hb, ho, ha, hn⟩
  have HI : Hid (At w6 aHI nHI cHI zHI (H * H')) := hide ⟨ha, hn⟩
  replace HX := hide ((unhide HX).later hb)
  replace HY := hide ((unhide HY).later hb)
  replace LO := hide ((unhide LO).later hb)
  replace AH := hide ((unhide AH).later hb)
  replace BH := hide ((unhide BH).later hb)
  replace HB := hide (below_on (unhide HB) hb)
  clear hb ho ha hn
  have bHI : nHI ≤ 400000 := by have := len_mul (unhide AH) (unhide BH) (unhide HI); omega
  go_wp2_with fail
  refine (lowS_any a n c h xs w6 (unhide HX).arg (by omega) (by omega)).mono ?_
  rintro e w7 ⟨aCL, nCL, cCL, rfl, hb, g⟩
  have CL : Hid (At w7 aCL nCL cCL _ L) := hide ⟨g, unhide NL⟩
  have bCL : nCL ≤ 200000 := Nat.le_trans ((unhide CL).le (unhide HX) (unhide X1).1) h1
  replace HX := hide ((unhide HX).later hb)
  replace HY := hide ((unhide HY).later hb)
  replace LO := hide ((unhide LO).later hb)
  replace HI := hide ((unhide HI).later hb)
  replace HB := hide (below_on (unhide HB) hb)
  clear hb g
  go_wp2_with fail
  refine (highS_any a n c h xs w7 (unhide HX).arg (unhide TX).tr (by omega) (by omega)).mono ?_
  rintro e w8 ⟨aCH, nCH, cCH, rfl, hb, g⟩
  have CH : Hid (At w8 aCH nCH cCH _ H) := hide ⟨g, unhide NH⟩
  have bCH : nCH ≤ 200000 := Nat.le_trans ((unhide CH).le (unhide HX) (unhide X1).2.1) h1
  replace HX := hide ((unhide HX).later hb)
  replace HY := hide ((unhide HY).later hb)
  replace LO := hide ((unhide LO).later hb)
  replace HI := hide ((unhide HI).later hb)
  replace CL := hide ((unhide CL).later hb)
  replace HB := hide (below_on (unhide HB) hb)
  clear hb g
  have CSA : Hid (Calls Try.prog 70 #[.slice aCL nCL cCL, .slice aCH nCH cCH] w8 (Out w8 (L + H))) := hide (by have := addT_any aCL aCH nCL nCH cCL cCH _ _ w8 (unhide CL).arg (unhide CH).arg (unhide CL).nm.ok (unhide CH).nm.ok (unhide CL).nm.tr (unhide CH).nm.tr (by omega) (by omega); rw [(unhide CL).nm.v, (unhide CH).nm.v] at this; exact this)
  go_wp2_with fail
  refine (unhide CSA).mono ?_
  rintro e w9 ⟨aSA, nSA, cSA, zSA, rfl, hb, ho, ha, hn⟩
  have SA : Hid (At w9 aSA nSA cSA zSA (L + H)) := hide ⟨ha, hn⟩
  clear CSA
  replace HX := hide ((unhide HX).later hb)
  replace HY := hide ((unhide HY).later hb)
  replace LO := hide ((unhide LO).later hb)
  replace HI := hide ((unhide HI).later hb)
  replace CL := hide ((unhide CL).later hb)
  replace CH := hide ((unhide CH).later hb)
  replace HB := hide (below_on (unhide HB) hb)
  clear hb ho ha hn
  go_wp2_with fail
  refine (lowS_any a' m c' h ys w9 (unhide HY).arg (by omega) (by omega)).mono ?_
  rintro e w10 ⟨aDL, nDL, cDL, rfl, hb, g⟩
  have DL : Hid (At w10 aDL nDL cDL _ L') := hide ⟨g, unhide NL'⟩
  have bDL : nDL ≤ 200000 := Nat.le_trans ((unhide DL).le (unhide HY) (unhide Y1).1) h2
  replace HX := hide ((unhide HX).later hb)
  replace HY := hide ((unhide HY).later hb)
  replace LO := hide ((unhide LO).later hb)
  replace HI := hide ((unhide HI).later hb)
  replace SA := hide ((unhide SA).later hb)
  replace HB := hide (below_on (unhide HB) hb)
  clear hb g
  go_wp2_with fail
  refine (highS_any a' m c' h ys w10 (unhide HY).arg (unhide TY).tr (by omega) (by omega)).mono ?_
  rintro e w11 ⟨aDH, nDH, cDH, rfl, hb, g⟩
  have DH : Hid (At w11 aDH nDH cDH _ H') := hide ⟨g, unhide NH'⟩
  have bDH : nDH ≤ 200000 := Nat.le_trans ((unhide DH).le (unhide HY) (unhide Y1).2.1) h2
  replace HX := hide ((unhide HX).later hb)
  replace HY := hide ((unhide HY).later hb)
  replace LO := hide ((unhide LO).later hb)
  replace HI := hide ((unhide HI).later hb)
  replace SA := hide ((unhide SA).later hb)
  replace DL := hide ((unhide DL).later hb)
  replace HB := hide (below_on (unhide HB) hb)
  clear hb g
  have CSB : Hid (Calls Try.prog 70 #[.slice aDL nDL cDL, .slice aDH nDH cDH] w11 (Out w11 (L' + H'))) := hide (by have := addT_any aDL aDH nDL nDH cDL cDH _ _ w11 (unhide DL).arg (unhide DH).arg (unhide DL).nm.ok (unhide DH).nm.ok (unhide DL).nm.tr (unhide DH).nm.tr (by omega) (by omega); rw [(unhide DL).nm.v, (unhide DH).nm.v] at this; exact this)
  go_wp2_with fail
  refine (unhide CSB).mono ?_
  rintro e w12 ⟨aSB, nSB, cSB, zSB, rfl, hb, ho, ha, hn⟩
  have SB : Hid (At w12 aSB nSB cSB zSB (L' + H')) := hide ⟨ha, hn⟩
  clear CSB
  replace HX := hide ((unhide HX).later hb)
  replace HY := hide ((unhide HY).later hb)
  replace LO := hide ((unhide LO).later hb)
  replace HI := hide ((unhide HI).later hb)
  replace SA := hide ((unhide SA).later hb)
  replace DL := hide ((unhide DL).later hb)
  replace DH := hide ((unhide DH).later hb)
  replace HB := hide (below_on (unhide HB) hb)
  clear hb ho ha hn
  have bSA : nSA ≤ 200000 := Nat.le_trans ((unhide SA).le (unhide HX) (unhide X1).2.2) h1
  have bSB : nSB ≤ 200000 := Nat.le_trans ((unhide SB).le (unhide HY) (unhide Y1).2.2) h2
  go_wp2_with fail
  refine (unhide IH _ _ _ _ _ _ _ _ _ _ w12 (unhide SA) (unhide SB) (unhide D3) bSA bSB).mono ?_
  rintro e w13 ⟨aBO, nBO, cBO, zBO, rfl, hb, ho, ha, hn⟩
  have BO : Hid (At w13 aBO nBO cBO zBO ((L + H) * (L' + H'))) := hide ⟨ha, hn⟩
  replace HX := hide ((unhide HX).later hb)
  replace HY := hide ((unhide HY).later hb)
  replace LO := hide ((unhide LO).later hb)
  replace HI := hide ((unhide HI).later hb)
  replace SA := hide ((unhide SA).later hb)
  replace SB := hide ((unhide SB).later hb)
  replace HB := hide (below_on (unhide HB) hb)
  clear hb ho ha hn
  have bBO : nBO ≤ 400000 := by have := len_mul (unhide SA) (unhide SB) (unhide BO); omega
  have ML := hide (mid_le (unhide L0) (unhide H0) (unhide L0') (unhide H0'))
  have LL0 : Hid (0 ≤ L * L') := hide (Int.mul_nonneg (unhide L0) (unhide L0'))
  have HH0 : Hid (0 ≤ H * H') := hide (Int.mul_nonneg (unhide H0) (unhide H0'))
  have CS1 : Hid (Calls Try.prog 105 #[.slice aBO nBO cBO, .slice aLO nLO cLO] w13 (Out w13 ((L + H) * (L' + H') - L * L'))) := hide (by have := subS_any aBO aLO nBO nLO cBO cLO _ _ w13 (unhide BO).arg (unhide LO).arg (unhide BO).nm.ok (unhide LO).nm.ok (by omega) ((unhide LO).le (unhide BO) (unhide ML).1) (by rw [(unhide BO).nm.v, (unhide LO).nm.v]; exact (unhide ML).1); rw [(unhide BO).nm.v, (unhide LO).nm.v] at this; exact this)
  go_wp2_with fail
  refine (unhide CS1).mono ?_
  rintro e w14 ⟨aS1, nS1, cS1, zS1, rfl, hb, ho, ha, hn⟩
  have S1 : Hid (At w14 aS1 nS1 cS1 zS1 ((L + H) * (L' + H') - L * L')) := hide ⟨ha, hn⟩
  clear CS1
  replace LO := hide ((unhide LO).later hb)
  replace HI := hide ((unhide HI).later hb)
  replace BO := hide ((unhide BO).later hb)
  replace HB := hide (below_on (unhide HB) hb)
  clear hb ho ha hn
  have bS1 : nS1 ≤ 400000 := Nat.le_trans ((unhide S1).le (unhide BO) (by have := unhide LL0; omega)) bBO
  have CMI : Hid (Calls Try.prog 105 #[.slice aS1 nS1 cS1, .slice aHI nHI cHI] w14 (Out w14 ((L + H) * (L' + H') - L * L' - H * H'))) := hide (by have := subS_any aS1 aHI nS1 nHI cS1 cHI _ _ w14 (unhide S1).arg (unhide HI).arg (unhide S1).nm.ok (unhide HI).nm.ok (by omega) ((unhide HI).le (unhide S1) (unhide ML).2) (by rw [(unhide S1).nm.v, (unhide HI).nm.v]; exact (unhide ML).2); rw [(unhide S1).nm.v, (unhide HI).nm.v] at this; exact this)
  go_wp2_with fail
  refine (unhide CMI).mono ?_
  rintro e w15 ⟨aMI, nMI, cMI, zMI, rfl, hb, ho, ha, hn⟩
  have MI : Hid (At w15 aMI nMI cMI zMI ((L + H) * (L' + H') - L * L' - H * H')) := hide ⟨ha, hn⟩
  clear CMI
  replace LO := hide ((unhide LO).later hb)
  replace HI := hide ((unhide HI).later hb)
  replace BO := hide ((unhide BO).later hb)
  replace S1 := hide ((unhide S1).later hb)
  replace HB := hide (below_on (unhide HB) hb)
  clear hb ho ha hn
  have bMI : nMI ≤ 400000 := Nat.le_trans ((unhide MI).le (unhide S1) (by have := unhide HH0; omega)) bS1
  go_wp2_with fail
  refine (shiftS_any aMI nMI cMI _ h rfl zMI w15 (unhide MI).arg (unhide MI).nm.ok (by omega) (by omega)).mono ?_
  rintro e w16 ⟨a8, n8, c8, z8, rfl, hb, ho, ha, hk8, hv8, hl8⟩
  have M8 := hide (And.intro ha (And.intro hk8 hv8))
  have b8 : n8 ≤ 600000 := by rw [← ha.len]; omega
  replace LO := hide ((unhide LO).later hb)
  replace HI := hide ((unhide HI).later hb)
  replace MI := hide ((unhide MI).later hb)
  replace HB := hide (below_on (unhide HB) hb)
  clear hb ho ha hk8 hv8 hl8
  go_wp2_with fail
  refine (shiftS_any aHI nHI cHI _ (2 * h) (by omega) zHI w16 (unhide HI).arg (unhide HI).nm.ok (by omega) (by omega)).mono ?_
  rintro e w17 ⟨a9, n9, c9, z9, rfl, hb, ho, ha, hk9, hv9, hl9⟩
  have b9 : n9 ≤ 600000 := by rw [← ha.len]; omega
  have A8 := hide ((unhide M8).1.later hb)
  replace LO := hide ((unhide LO).later hb)
  replace HB := hide (below_on (unhide HB) hb)
  have CA1 := hide (addS_any a8 a9 n8 n9 c8 c9 z8 z9 w17 (unhide A8) ha (unhide M8).2.1 hk9 (by omega) (by omega))
  have HV9 := hide hv9
  clear hb ho ha hk9 hv9 hl9
  go_wp2_with fail
  refine (unhide CA1).mono ?_
  rintro e w18 ⟨a10, n10, c10, z10, rfl, hb, ho, ha, hk, hv, hl⟩
  have b10 : n10 ≤ 600001 := by rw [← ha.len]; omega
  replace LO := hide ((unhide LO).later hb)
  replace HB := hide (below_on (unhide HB) hb)
  have CA2 : Hid (Calls Try.prog 70 #[.slice aLO nLO cLO, .slice a10 n10 c10] w18 (OutU w18 (X * Y) (max nLO n10 + 1))) := hide (by
    have := addS_any aLO a10 nLO n10 cLO c10 zLO z10 w18 (unhide LO).arg ha (unhide LO).nm.ok hk (by omega) (by omega)
    rw [(unhide LO).nm.v, hv, (unhide M8).2.2, unhide HV9, (unhide MI).nm.v, (unhide HI).nm.v] at this
    rw [show (65536 : Int) ^ (2 * h) = 65536 ^ h * 65536 ^ h by rw [← Int.pow_add]; congr 1; omega, kara, ← unhide PX, ← unhide PY] at this
    exact this)
  clear hb ho ha hk hv hl CA1
  go_wp2_with fail
  refine (unhide CA2).mono ?_
  rintro e w19 ⟨a11, n11, c11, z11, rfl, hb, ho, ha, hk, hv, hl⟩
  have b11 : n11 ≤ 700000 := by rw [← ha.len]; omega
  replace HB := hide (below_on (unhide HB) hb)
  have HF := hide (And.intro ha (And.intro hk hv))
  clear hb ho ha hk hv hl CA2
  go_wp2_with fail
  refine (cut_any a11 n11 c11 z11 w19 (unhide HF).1 (by omega)).mono ?_
  rintro e w20 ⟨a12, n12, c12, rfl, hb, ho, ha⟩
  have HG := hide (And.intro (below_on (unhide HB) hb) (And.intro (ho.mono (unhide HB).size) ha))
  clear hb ho ha
  go_wp2_with fail
  go_ret
  exact ⟨a12, n12, c12, _, rfl, (unhide HG).1, (unhide HG).2.1, (unhide HG).2.2, by rw [← (unhide HF).2.2]; exact Nm.trimmed (unhide HF).2.1⟩

theorem halvesS (k : Nat) : HalvSaidS k := by
  induction k with
  | zero =>
    intro a a' n m c c' xs ys X Y w hx hy hk h1 h2
    have x0 := hx.nm.nonneg
    have y0 := hy.nm.nonneg
    have ex : xs = [] := hx.nm.nil_iff.2 (by omega)
    have ey : ys = [] := hy.nm.nil_iff.2 (by omega)
    have lx := hx.arg.len
    have ly := hy.arg.len
    rw [ex] at lx
    rw [ey] at ly
    simp only [List.length_nil] at lx ly
    exact halvS_small a a' n m c c' xs ys X Y w hx hy (by omega) (by omega)
  | succ k ih =>
    intro a a' n m c c' xs ys X Y w hx hy hk h1 h2
    by_cases hs : n ≤ 2 ∧ m ≤ 2
    · exact halvS_small a a' n m c c' xs ys X Y w hx hy hs.1 hs.2
    · by_cases hnm : n < m
      · exact halvS_step_lt k (hide ih) a a' n m c c' (m / 2) xs ys X Y w hx hy (by omega) h1 h2 hnm (by omega) (by omega)
      · exact halvS_step_ge k (hide ih) a a' n m c c' (n / 2) xs ys X Y w hx hy (by omega) h1 h2 hnm (by omega) (by omega)
end Go.Proofs.Ytagnhgefdcckoaa
namespace Go.Proofs.Ytagnhgefdcckoaa
open Go.RowKit
set_option linter.unusedVariables false
set_option maxRecDepth 100000
set_option linter.unusedSimpArgs false

theorem mul_len2 {w : World} {zs xs ys : List Int} {a a' : Option Addr} {n m c c' : Nat} (h : Nm zs (val xs * val ys)) (hx : Num w a n c xs) (hy : Num w a' m c' ys) (hn : n ≤ 200000) (hm : m ≤ 200000) : zs.length ≤ 1048576 := mul_len h hx hy (by omega) (by omega)
theorem halvI_any (a a' : Option Addr) (n m c c' : Nat) (xs ys : List Int) (w : World) (hx : Arg w a n c xs) (hy : Arg w a' m c' ys) (ox : okL xs) (oy : okL ys) (tx : trim xs = xs) (ty : trim ys = ys) (h1 : n ≤ 200000) (h2 : m ≤ 200000) :
    Calls Try.prog 52 #[.slice a n c, .slice a' m c'] w (Out w (val xs * val ys)) :=
  halvesI (val xs + val ys).toNat a a' n m c c' xs ys _ _ w ⟨hx, ox, tx, rfl⟩ ⟨hy, oy, ty, rfl⟩ (by have := val_nonneg ox; have := val_nonneg oy; omega) h1 h2
theorem halvS_any (a a' : Option Addr) (n m c c' : Nat) (xs ys : List Int) (w : World) (hx : Arg w a n c xs) (hy : Arg w a' m c' ys) (ox : okL xs) (oy : okL ys) (tx : trim xs = xs) (ty : trim ys = ys) (h1 : n ≤ 200000) (h2 : m ≤ 200000) :
    Calls Try.prog 54 #[.slice a n c, .slice a' m c'] w (Out w (val xs * val ys)) :=
  halvesS (val xs + val ys).toNat a a' n m c c' xs ys _ _ w ⟨hx, ox, tx, rfl⟩ ⟨hy, oy, ty, rfl⟩ (by have := val_nonneg ox; have := val_nonneg oy; omega) h1 h2
theorem fitMS (g : Bool) (U : Int) (a : Option Addr) (n c : Nat) (zs : List Int) (w : World) (base : Nat) (ho : Own base w a zs) (ha : Arg w a n c zs) (hn : Nm zs U) (V : Int) (hV : V = if g then -U else U) :
    Calls Try.prog 49 #[.agg #[.bool (sd g U), .slice a n c]] w fun e w' => ∃ gr a2 n2 c2 ts ok, e = .returned (.tuple #[.agg #[.bool gr, .slice a2 n2 c2], .bool ok]) ∧ Below w.heap.size w w' ∧ Own base w' a2 ts ∧ Arg w' a2 n2 c2 ts ∧ Ans true V gr ts ok := by
  have e : sd g U = decide (V < 0) := by rw [hV]; rfl
  rw [e]
  exact fitS_any V a n c zs w base ho ha (by rw [natAbs_sign hn.nonneg hV]; exact hn)

set_option maxHeartbeats 4000000 in
theorem HalvesI_any (g g' : Bool) (a a' : Option Addr) (n m c c' : Nat) (xs ys : List Int) (w : World) (hx : Arg w a n c xs) (hy : Arg w a' m c' ys) :
    Calls Try.prog 10 #[.agg #[.bool g, .slice a n c], .agg #[.bool g', .slice a' m c']] w (OutA w (goodB g xs && goodB g' ys) (sv g xs * sv g' ys)) := by
  have HX := hide hx
  have HY := hide hy
  clear hx hy
  have B3 := hide (below_three w (.cells #[.bool g, .slice a n c] 25) (.cells #[.bool g', .slice a' m c'] 25) (.cells #[.bool false, .slice none 0 0] 25))
  cases hP : (goodB g xs && goodB g' ys)
  · go_enter Try.func10, Try.ntmps10
    go_wp2_with fail
    refine (pair_any g g' a a' n m c c' xs ys _ ((unhide HX).later (unhide B3)).sl ((unhide HY).later (unhide B3)).sl (unhide HX).len (unhide HY).len (Nat.le_trans (unhide HX).cap (unhide HX).top) (Nat.le_trans (unhide HY).cap (unhide HY).top)).mono ?_
    rintro e w1 ⟨rfl, hb1⟩
    rw [hP]
    have r0 : w1.cell? ⟨w.heap.size + 1 + 1, 0, none⟩ = some (.bool false) := cell_later hb1 (by simp [go_sem])
    have r1 : w1.cell? ⟨w.heap.size + 1 + 1, 1, none⟩ = some (.slice none 0 0) := cell_later hb1 (by simp [go_sem])
    have f0 : ∀ o, w1.frozen? ⟨w.heap.size + 1 + 1, o, none⟩ = false := fun o => frozen_later hb1 (by simp) (by simp [go_sem])
    have HB := hide ((unhide B3).trans (hb1.mono (by simp <;> omega)))
    clear hb1 hP
    go_wp2
    exact bodyPost_ret (v := .tuple #[.agg #[.bool false, .slice none 0 0], .bool false]) (by simp [results, Try.results10, go_sem, r0, r1]) rfl (outA_no (s := w.heap.size + 1 + 1) (by omega) (unhide HB) _ _)
  · have hg1 : goodB g xs = true := by revert hP; cases goodB g xs <;> simp
    have hg2 : goodB g' ys = true := by revert hP; cases goodB g' ys <;> simp
    have NX := hide (num_of_good (unhide HX) hg1)
    have NY := hide (num_of_good (unhide HY) hg2)
    have NL : Hid (n ≤ 200000) := hide (by have := (good_parts hg1).2.2.1; have := (unhide HX).len; omega)
    have ML : Hid (m ≤ 200000) := hide (by have := (good_parts hg2).2.2.1; have := (unhide HY).len; omega)
    have HVS := hide (sv_mul g g' xs ys)
    clear hg1 hg2
    go_enter Try.func10, Try.ntmps10
    go_wp2_with fail
    refine (pair_any g g' a a' n m c c' xs ys _ ((unhide HX).later (unhide B3)).sl ((unhide HY).later (unhide B3)).sl (unhide HX).len (unhide HY).len (Nat.le_trans (unhide HX).cap (unhide HX).top) (Nat.le_trans (unhide HY).cap (unhide HY).top)).mono ?_
    rintro e wA ⟨rfl, hb1⟩
    rw [hP]
    have kA0 : wA.cell? ⟨w.heap.size, 0, none⟩ = some (.bool g) := cell_later hb1 (by simp [go_sem])
    have kA1 : wA.cell? ⟨w.heap.size, 1, none⟩ = some (.slice a n c) := cell_later hb1 (by simp [go_sem])
    have kA2 : wA.cell? ⟨w.heap.size + 1, 0, none⟩ = some (.bool g') := cell_later hb1 (by simp [go_sem])
    have kA3 : wA.cell? ⟨w.heap.size + 1, 1, none⟩ = some (.slice a' m c') := cell_later hb1 (by simp [go_sem])
    have rA0 : wA.cell? ⟨w.heap.size + 1 + 1, 0, none⟩ = some (.bool false) := cell_later hb1 (by simp [go_sem])
    have rA1 : wA.cell? ⟨w.heap.size + 1 + 1, 1, none⟩ = some (.slice none 0 0) := cell_later hb1 (by simp [go_sem])
    have fA : ∀ o, wA.frozen? ⟨w.heap.size + 1 + 1, o, none⟩ = false := fun o => frozen_later hb1 (by simp) (by simp [go_sem])
    have sA : w.heap.size + 1 + 1 + 1 ≤ wA.heap.size := by have := hb1.size; simp at this; omega
    have BA := hide ((unhide B3).trans (hb1.mono (by simp <;> omega)))
    clear hb1 hP B3
    go_upto_region 3 with fail
    go_region_held3 (fun w' => w'.cell? ⟨w.heap.size, 0, none⟩ = some (.bool g) ∧ w'.cell? ⟨w.heap.size, 1, none⟩ = some (.slice a n c) ∧ w'.cell? ⟨w.heap.size + 1, 0, none⟩ = some (.bool g') ∧ w'.cell? ⟨w.heap.size + 1, 1, none⟩ = some (.slice a' m c')) (first | (refine ⟨?_, ?_, ?_, ?_⟩ <;> assumption) | (refine ⟨cs_other (cs_other ?_ ?_) ?_, cs_other (cs_other ?_ ?_) ?_, cs_other (cs_other ?_ ?_) ?_, cs_other (cs_other ?_ ?_) ?_⟩ <;> first | assumption | omega))
      (first
      | (go_at_call 52; refine (halvI_any a a' n m c c' xs ys _ ?_ ?_ (unhide NX).ok (unhide NY).ok (unhide NX).tr (unhide NY).tr ?_ ?_).mono ?_; exact ((unhide NX).arg.later (unhide BA)).drew; exact ((unhide NY).arg.later (unhide BA)).drew; exact unhide NL; exact unhide ML; rintro e w3 ⟨a1, n1, c1, zs, rfl, hb3', ho3, ha3, hn3⟩; have hb3 := below_of_drew hb3'; have k30 : w3.cell? ⟨w.heap.size, 0, none⟩ = some (.bool g) := cell_later hb3 kA0; have k31 : w3.cell? ⟨w.heap.size, 1, none⟩ = some (.slice a n c) := cell_later hb3 kA1; have k32 : w3.cell? ⟨w.heap.size + 1, 0, none⟩ = some (.bool g') := cell_later hb3 kA2; have k33 : w3.cell? ⟨w.heap.size + 1, 1, none⟩ = some (.slice a' m c') := cell_later hb3 kA3; have r30 : w3.cell? ⟨w.heap.size + 1 + 1, 0, none⟩ = some (.bool false) := cell_later hb3 rA0; have r31 : w3.cell? ⟨w.heap.size + 1 + 1, 1, none⟩ = some (.slice none 0 0) := cell_later hb3 rA1; have f3 : ∀ o, w3.frozen? ⟨w.heap.size + 1 + 1, o, none⟩ = false := fun o => frozen_later hb3 (Nat.lt_of_lt_of_le (by omega) sA) (fA o); have s3 := Nat.le_trans sA hb3.size; have B3 := hide (below_on (unhide BA) hb3); have L3 : Hid (n1 ≤ 1048576) := hide (by rw [← ha3.len]; exact mul_len2 hn3 (unhide NX) (unhide NY) (unhide NL) (unhide ML)); have O3 := hide (ho3.mono (base' := w.heap.size + 1 + 1 + 1) sA); clear hb3' hb3 ho3)
      | (go_at_call 51; refine (signI_out _ a1 n1 c1 zs _ (w.heap.size + 1 + 1 + 1) (val xs * val ys) ha3 (unhide O3) hn3.ok hn3.v ?_ (unhide L3)).mono ?_; (exact s3); rintro e w4 ⟨a2, n2, c2, ts, rfl, hb4, ho4, ha4, hn4⟩; have k40 : w4.cell? ⟨w.heap.size, 0, none⟩ = some (.bool g) := cell_later hb4 k30; have k41 : w4.cell? ⟨w.heap.size, 1, none⟩ = some (.slice a n c) := cell_later hb4 k31; have k42 : w4.cell? ⟨w.heap.size + 1, 0, none⟩ = some (.bool g') := cell_later hb4 k32; have k43 : w4.cell? ⟨w.heap.size + 1, 1, none⟩ = some (.slice a' m c') := cell_later hb4 k33; have r40 : w4.cell? ⟨w.heap.size + 1 + 1, 0, none⟩ = some (.bool false) := cell_later hb4 r30; have r41 : w4.cell? ⟨w.heap.size + 1 + 1, 1, none⟩ = some (.slice none 0 0) := cell_later hb4 r31; have f4 : ∀ o, w4.frozen? ⟨w.heap.size + 1 + 1, o, none⟩ = false := fun o => frozen_later hb4 (Nat.lt_of_lt_of_le (by omega) s3) (f3 o); have s4 := Nat.le_trans s3 hb4.size; have B4 := hide (below_on (unhide B3) hb4); have HO4 := hide ho4; have HA4 := hide ha4; have HN4 := hide hn4; clear hb4 ho4 ha4 hn4)
      | (go_at_call 46; refine (fitM _ _ a2 n2 c2 ts _ (w.heap.size + 1 + 1 + 1) (unhide HO4) (unhide HA4) (unhide HN4) (sv g xs * sv g' ys) ?_).mono ?_; exact unhide HVS; rintro e w5 ⟨gr, a3, n3, c3, us, ok, rfl, hb5, ho5, ha5, hans⟩; have k50 : w5.cell? ⟨w.heap.size, 0, none⟩ = some (.bool g) := cell_later hb5 k40; have k51 : w5.cell? ⟨w.heap.size, 1, none⟩ = some (.slice a n c) := cell_later hb5 k41; have k52 : w5.cell? ⟨w.heap.size + 1, 0, none⟩ = some (.bool g') := cell_later hb5 k42; have k53 : w5.cell? ⟨w.heap.size + 1, 1, none⟩ = some (.slice a' m c') := cell_later hb5 k43; have r50 : w5.cell? ⟨w.heap.size + 1 + 1, 0, none⟩ = some (.bool false) := cell_later hb5 r40; have r51 : w5.cell? ⟨w.heap.size + 1 + 1, 1, none⟩ = some (.slice none 0 0) := cell_later hb5 r41; have f5 : ∀ o, w5.frozen? ⟨w.heap.size + 1 + 1, o, none⟩ = false := fun o => frozen_later hb5 (Nat.lt_of_lt_of_le (by omega) s4) (f4 o); have B5 := hide (below_on (unhide B4) hb5); have HO5 := hide ho5; have HA5 := hide ha5; have HS5 := hide hans; clear hb5 ho5 ha5 hans))
    go_wp2
    exact bodyPost_ret (v := .tuple #[.agg #[.bool gr, .slice a3 n3 c3], .bool ok]) (by simp [results, Try.results10, go_sem, r50, r51]) rfl (outA_of (s := w.heap.size + 1 + 1) (by omega) (unhide B5) (unhide HO5) (unhide HA5) (unhide HS5) _ _)

set_option maxHeartbeats 4000000 in
theorem HalvesS_any (g g' : Bool) (a a' : Option Addr) (n m c c' : Nat) (xs ys : List Int) (w : World) (hx : Arg w a n c xs) (hy : Arg w a' m c' ys) :
    Calls Try.prog 11 #[.agg #[.bool g, .slice a n c], .agg #[.bool g', .slice a' m c']] w (OutA w (goodB g xs && goodB g' ys) (sv g xs * sv g' ys)) := by
  have HX := hide hx
  have HY := hide hy
  clear hx hy
  have B3 := hide (below_three w (.cells #[.bool g, .slice a n c] 25) (.cells #[.bool g', .slice a' m c'] 25) (.cells #[.bool false, .slice none 0 0] 25))
  have mx := hide (Nat.le_trans (unhide HX).cap (unhide HX).top)
  have my := hide (Nat.le_trans (unhide HY).cap (unhide HY).top)
  cases hg1 : goodB g xs
  · rw [Bool.false_and]
    go_enter Try.func11, Try.ntmps11
    go_wp2_with fail
    refine (goodS_any g a n c xs _ ((unhide HX).later (unhide B3)).sl (unhide HX).len (unhide mx)).mono ?_
    rintro e w1 ⟨rfl, hb1⟩
    have r0 : w1.cell? ⟨w.heap.size + 1 + 1, 0, none⟩ = some (.bool false) := cell_later hb1 (by simp [go_sem])
    have r1 : w1.cell? ⟨w.heap.size + 1 + 1, 1, none⟩ = some (.slice none 0 0) := cell_later hb1 (by simp [go_sem])
    have f0 : ∀ o, w1.frozen? ⟨w.heap.size + 1 + 1, o, none⟩ = false := fun o => frozen_later hb1 (by simp) (by simp [go_sem])
    have HB := hide ((unhide B3).trans (hb1.mono (by simp <;> omega)))
    clear hb1
    go_wp2
    exact bodyPost_ret (v := .tuple #[.agg #[.bool false, .slice none 0 0], .bool false]) (by simp [results, Try.results11, go_sem, r0, r1]) rfl (outA_no (s := w.heap.size + 1 + 1) (by omega) (unhide HB) _ _)
  · rw [Bool.true_and]
    have NX := hide (num_of_good (unhide HX) hg1)
    cases hg2 : goodB g' ys
    · go_enter Try.func11, Try.ntmps11
      go_wp2_with fail
      refine (goodS_any g a n c xs _ ((unhide HX).later (unhide B3)).sl (unhide HX).len (unhide mx)).mono ?_
      rintro e w1 ⟨rfl, hb1⟩
      have y0 : w1.cell? ⟨w.heap.size + 1, 0, none⟩ = some (.bool g') := cell_later hb1 (by simp [go_sem])
      have y1 : w1.cell? ⟨w.heap.size + 1, 1, none⟩ = some (.slice a' m c') := cell_later hb1 (by simp [go_sem])
      have r0 : w1.cell? ⟨w.heap.size + 1 + 1, 0, none⟩ = some (.bool false) := cell_later hb1 (by simp [go_sem])
      have r1 : w1.cell? ⟨w.heap.size + 1 + 1, 1, none⟩ = some (.slice none 0 0) := cell_later hb1 (by simp [go_sem])
      have f0 : ∀ o, w1.frozen? ⟨w.heap.size + 1 + 1, o, none⟩ = false := fun o => frozen_later hb1 (by simp) (by simp [go_sem])
      have s1 : w.heap.size + 1 + 1 + 1 ≤ w1.heap.size := by have := hb1.size; simp at this; omega
      have HB := hide ((unhide B3).trans (hb1.mono (by simp <;> omega)))
      clear hb1
      go_wp2_with fail
      refine (goodS_any g' a' m c' ys _ ((unhide HY).later (unhide HB)).sl (unhide HY).len (unhide my)).mono ?_
      rintro e w2 ⟨rfl, hb2⟩
      replace r0 := cell_later hb2 r0
      replace r1 := cell_later hb2 r1
      replace f0 : ∀ o, w2.frozen? ⟨w.heap.size + 1 + 1, o, none⟩ = false := fun o => frozen_later hb2 (by omega) (f0 o)
      replace HB := hide (below_on (unhide HB) hb2)
      clear hb2
      go_wp2
      exact bodyPost_ret (v := .tuple #[.agg #[.bool false, .slice none 0 0], .bool false]) (by simp [results, Try.results11, go_sem, r0, r1]) rfl (outA_no (s := w.heap.size + 1 + 1) (by omega) (unhide HB) _ _)
    · have NY := hide (num_of_good (unhide HY) hg2)
      have HVS := hide (sv_mul g g' xs ys)
      have NL : Hid (n ≤ 200000) := hide (by have := (good_parts hg1).2.2.1; have := (unhide HX).len; omega)
      have ML : Hid (m ≤ 200000) := hide (by have := (good_parts hg2).2.2.1; have := (unhide HY).len; omega)
      go_enter Try.func11, Try.ntmps11
      go_wp2_with fail
      refine (goodS_any g a n c xs _ ((unhide HX).later (unhide B3)).sl (unhide HX).len (unhide mx)).mono ?_
      rintro e w1 ⟨rfl, hb1⟩
      have x0 : w1.cell? ⟨w.heap.size, 0, none⟩ = some (.bool g) := cell_later hb1 (by simp [go_sem])
      have x1 : w1.cell? ⟨w.heap.size, 1, none⟩ = some (.slice a n c) := cell_later hb1 (by simp [go_sem])
      have y0 : w1.cell? ⟨w.heap.size + 1, 0, none⟩ = some (.bool g') := cell_later hb1 (by simp [go_sem])
      have y1 : w1.cell? ⟨w.heap.size + 1, 1, none⟩ = some (.slice a' m c') := cell_later hb1 (by simp [go_sem])
      have r0 : w1.cell? ⟨w.heap.size + 1 + 1, 0, none⟩ = some (.bool false) := cell_later hb1 (by simp [go_sem])
      have r1 : w1.cell? ⟨w.heap.size + 1 + 1, 1, none⟩ = some (.slice none 0 0) := cell_later hb1 (by simp [go_sem])
      have f0 : ∀ o, w1.frozen? ⟨w.heap.size + 1 + 1, o, none⟩ = false := fun o => frozen_later hb1 (by simp) (by simp [go_sem])
      have s1 : w.heap.size + 1 + 1 + 1 ≤ w1.heap.size := by have := hb1.size; simp at this; omega
      have HB := hide ((unhide B3).trans (hb1.mono (by simp <;> omega)))
      clear hb1
      go_wp2_with fail
      refine (goodS_any g' a' m c' ys _ ((unhide HY).later (unhide HB)).sl (unhide HY).len (unhide my)).mono ?_
      rintro e w2 ⟨rfl, hb2⟩
      replace x0 := cell_later hb2 x0
      replace x1 := cell_later hb2 x1
      replace y0 := cell_later hb2 y0
      replace y1 := cell_later hb2 y1
      replace r0 := cell_later hb2 r0
      replace r1 := cell_later hb2 r1
      replace f0 : ∀ o, w2.frozen? ⟨w.heap.size + 1 + 1, o, none⟩ = false := fun o => frozen_later hb2 (by omega) (f0 o)
      replace HB := hide (below_on (unhide HB) hb2)
      have s2 : w.heap.size + 1 + 1 + 1 ≤ w2.heap.size := Nat.le_trans s1 hb2.size
      clear hb2 s1
      go_upto_region 3 with fail
      go_region_held3 (fun w' => w'.cell? ⟨w.heap.size, 0, none⟩ = some (.bool g) ∧ w'.cell? ⟨w.heap.size, 1, none⟩ = some (.slice a n c) ∧ w'.cell? ⟨w.heap.size + 1, 0, none⟩ = some (.bool g') ∧ w'.cell? ⟨w.heap.size + 1, 1, none⟩ = some (.slice a' m c')) (first | (refine ⟨?_, ?_, ?_, ?_⟩ <;> assumption) | (refine ⟨cs_other (cs_other ?_ ?_) ?_, cs_other (cs_other ?_ ?_) ?_, cs_other (cs_other ?_ ?_) ?_, cs_other (cs_other ?_ ?_) ?_⟩ <;> first | assumption | omega))
        (first
        | (go_at_call 54; refine (halvS_any a a' n m c c' xs ys _ ?_ ?_ (unhide NX).ok (unhide NY).ok (unhide NX).tr (unhide NY).tr ?_ ?_).mono ?_; exact ((unhide NX).arg.later (unhide HB)).drew; exact ((unhide NY).arg.later (unhide HB)).drew; exact unhide NL; exact unhide ML; rintro e w3 ⟨a1, n1, c1, zs, rfl, hb3', ho3, ha3, hn3⟩; have hb3 := below_of_drew hb3'; have k30 : w3.cell? ⟨w.heap.size, 0, none⟩ = some (.bool g) := cell_later hb3 x0; have k31 : w3.cell? ⟨w.heap.size, 1, none⟩ = some (.slice a n c) := cell_later hb3 x1; have k32 : w3.cell? ⟨w.heap.size + 1, 0, none⟩ = some (.bool g') := cell_later hb3 y0; have k33 : w3.cell? ⟨w.heap.size + 1, 1, none⟩ = some (.slice a' m c') := cell_later hb3 y1; have r30 : w3.cell? ⟨w.heap.size + 1 + 1, 0, none⟩ = some (.bool false) := cell_later hb3 r0; have r31 : w3.cell? ⟨w.heap.size + 1 + 1, 1, none⟩ = some (.slice none 0 0) := cell_later hb3 r1; have f3 : ∀ o, w3.frozen? ⟨w.heap.size + 1 + 1, o, none⟩ = false := fun o => frozen_later hb3 (Nat.lt_of_lt_of_le (by omega) s2) (f0 o); have s3 := Nat.le_trans s2 hb3.size; have B3 := hide (below_on (unhide HB) hb3); have L3 : Hid (n1 ≤ 1048576) := hide (by rw [← ha3.len]; exact mul_len2 hn3 (unhide NX) (unhide NY) (unhide NL) (unhide ML)); have O3 := hide (ho3.mono (base' := w.heap.size + 1 + 1 + 1) s2); clear hb3' hb3 ho3)
        | (go_at_call 53; refine (signS_out _ a1 n1 c1 zs _ (w.heap.size + 1 + 1 + 1) (val xs * val ys) ha3 (unhide O3) hn3.ok hn3.v ?_ (unhide L3)).mono ?_; (exact s3); rintro e w4 ⟨a2, n2, c2, ts, rfl, hb4, ho4, ha4, hn4⟩; have k40 : w4.cell? ⟨w.heap.size, 0, none⟩ = some (.bool g) := cell_later hb4 k30; have k41 : w4.cell? ⟨w.heap.size, 1, none⟩ = some (.slice a n c) := cell_later hb4 k31; have k42 : w4.cell? ⟨w.heap.size + 1, 0, none⟩ = some (.bool g') := cell_later hb4 k32; have k43 : w4.cell? ⟨w.heap.size + 1, 1, none⟩ = some (.slice a' m c') := cell_later hb4 k33; have r40 : w4.cell? ⟨w.heap.size + 1 + 1, 0, none⟩ = some (.bool false) := cell_later hb4 r30; have r41 : w4.cell? ⟨w.heap.size + 1 + 1, 1, none⟩ = some (.slice none 0 0) := cell_later hb4 r31; have f4 : ∀ o, w4.frozen? ⟨w.heap.size + 1 + 1, o, none⟩ = false := fun o => frozen_later hb4 (Nat.lt_of_lt_of_le (by omega) s3) (f3 o); have s4 := Nat.le_trans s3 hb4.size; have B4 := hide (below_on (unhide B3) hb4); have HO4 := hide ho4; have HA4 := hide ha4; have HN4 := hide hn4; clear hb4 ho4 ha4 hn4)
        | (go_at_call 49; refine (fitMS _ _ a2 n2 c2 ts _ (w.heap.size + 1 + 1 + 1) (unhide HO4) (unhide HA4) (unhide HN4) (sv g xs * sv g' ys) ?_).mono ?_; exact unhide HVS; rintro e w5 ⟨gr, a3, n3, c3, us, ok, rfl, hb5, ho5, ha5, hans⟩; have k50 : w5.cell? ⟨w.heap.size, 0, none⟩ = some (.bool g) := cell_later hb5 k40; have k51 : w5.cell? ⟨w.heap.size, 1, none⟩ = some (.slice a n c) := cell_later hb5 k41; have k52 : w5.cell? ⟨w.heap.size + 1, 0, none⟩ = some (.bool g') := cell_later hb5 k42; have k53 : w5.cell? ⟨w.heap.size + 1, 1, none⟩ = some (.slice a' m c') := cell_later hb5 k43; have r50 : w5.cell? ⟨w.heap.size + 1 + 1, 0, none⟩ = some (.bool false) := cell_later hb5 r40; have r51 : w5.cell? ⟨w.heap.size + 1 + 1, 1, none⟩ = some (.slice none 0 0) := cell_later hb5 r41; have f5 : ∀ o, w5.frozen? ⟨w.heap.size + 1 + 1, o, none⟩ = false := fun o => frozen_later hb5 (Nat.lt_of_lt_of_le (by omega) s4) (f4 o); have B5 := hide (below_on (unhide B4) hb5); have HO5 := hide ho5; have HA5 := hide ha5; have HS5 := hide hans; clear hb5 ho5 ha5 hans))
      go_wp2
      exact bodyPost_ret (v := .tuple #[.agg #[.bool gr, .slice a3 n3 c3], .bool ok]) (by simp [results, Try.results11, go_sem, r50, r51]) rfl (outA_of (s := w.heap.size + 1 + 1) (by omega) (unhide B5) (unhide HO5) (unhide HA5) (unhide HS5) _ _)
end Go.Proofs.Ytagnhgefdcckoaa

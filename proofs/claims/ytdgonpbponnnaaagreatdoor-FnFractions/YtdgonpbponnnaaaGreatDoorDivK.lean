/- Plain mathematics of long division: what is left and what is found, digit by digit from the top on. No condition beyond those typed. -/
import Derived.Test.YtdgonpbponnnaaaGreatDoorDivL
namespace Go.Proofs.YtdgonpbponnnaaaGreatDoor
open Go.RowKit
set_option linter.unusedVariables false
set_option maxRecDepth 100000
set_option linter.unusedSimpArgs false

structure DivL (rs zs : List Int) (k m e : Nat) (V A : Int) : Prop where
  rl : rs.length = m + e + 1
  ro : okL rs
  zl : k + zs.length = e + 1
  zo : okL zs
  v : val rs + V * 65536 ^ k * val zs = A
  lt : val (rs.drop k) < V
theorem val_cut {xs : List Int} {k : Nat} (h : k ≤ xs.length) : val xs = val (xs.take k) + 65536 ^ k * val (xs.drop k) := by
  have := val_drop xs k
  rw [List.length_take, Nat.min_eq_left h] at this
  exact this
theorem DivL.start {rs : List Int} {m e : Nat} {X Y p : Int} (hl : rs.length = m + e + 1) (ho : okL rs) (hv : val rs = X * p) (hp : 0 < p) (hm : 1 ≤ m) (hX : X < 65536 ^ (m + e)) (hY : 65536 ^ (m - 1) ≤ Y) : DivL rs [] (e + 1) m e (Y * p) (X * p) := by
  refine ⟨hl, ho, by simp, okL_nil, by simp [val, hv], ?_⟩
  have e1 := val_cut (xs := rs) (k := e + 1) (by omega)
  have p0 := val_nonneg (okL_take ho (e + 1))
  have hp0 : (0 : Int) < 65536 ^ (e + 1) := Int.pow_pos (by omega)
  have h1 : X * p < 65536 ^ (m + e) * p := Int.mul_lt_mul_of_pos_right hX hp
  have h2 : (65536 : Int) ^ (m + e) = 65536 ^ (e + 1) * 65536 ^ (m - 1) := by rw [← Int.pow_add, show e + 1 + (m - 1) = m + e by omega]
  have h3 : 65536 ^ (m - 1) * p ≤ Y * p := Int.mul_le_mul_of_nonneg_right hY (by omega)
  have h4 : 65536 ^ (e + 1) * (65536 ^ (m - 1) * p) ≤ 65536 ^ (e + 1) * (Y * p) := Int.mul_le_mul_of_nonneg_left h3 (by omega)
  rw [h2, Int.mul_assoc] at h1
  exact Int.lt_of_mul_lt_mul_left (a := 65536 ^ (e + 1)) (by omega) (by omega)
theorem DivL.zero {rs zs : List Int} {j m e : Nat} {V A : Int} (h : DivL rs zs (j + 1) m e V A) (hV : V ≤ 65536 ^ m) : val (rs.drop (j + m + 1)) = 0 ∧ val ((rs.drop j).take (m + 1)) = val (rs.drop j) ∧ val (rs.drop j) < V * 65536 := by
  have hl := h.rl
  have hz := h.zl
  have lt := h.lt
  have o1 := okL_drop h.ro (j + 1)
  have e1 := val_cut (xs := rs.drop (j + 1)) (k := m) (by rw [List.length_drop]; omega)
  rw [List.drop_drop, show j + 1 + m = j + m + 1 by omega] at e1
  have p0 := val_nonneg (okL_take o1 m)
  have p1 := val_nonneg (okL_drop h.ro (j + m + 1))
  have hp : (0 : Int) < 65536 ^ m := Int.pow_pos (by omega)
  have z : val (rs.drop (j + m + 1)) = 0 := by
    rcases Int.lt_or_le 0 (val (rs.drop (j + m + 1))) with h' | h'
    · have : 65536 ^ m * 1 ≤ 65536 ^ m * val (rs.drop (j + m + 1)) := Int.mul_le_mul_of_nonneg_left (by omega) (by omega)
      omega
    · omega
  have e2 := val_cut (xs := rs.drop j) (k := m + 1) (by rw [List.length_drop]; omega)
  rw [List.drop_drop, show j + (m + 1) = j + m + 1 by omega, z] at e2
  have e3 := drop_succ (xs := rs) (k := j) (by omega)
  have b := okL_get h.ro j
  exact ⟨z, by omega, by omega⟩
theorem DivL.step {rs zs ws : List Int} {j m e : Nat} {V A : Int} (h : DivL rs zs (j + 1) m e V A) (hV0 : 0 < V) (hV : V ≤ 65536 ^ m) (wl : ws.length = m + 1) (wo : okL ws) (wv : val ws = val ((rs.drop j).take (m + 1)) % V) :
    DivL (mixW rs j ws) (val ((rs.drop j).take (m + 1)) / V :: zs) j m e V A := by
  obtain ⟨z, w1, w2⟩ := h.zero hV
  have hl := h.rl
  have hz := h.zl
  rw [w1] at wv ⊢
  have P0 := val_nonneg (okL_drop h.ro j)
  have q0 : 0 ≤ val (rs.drop j) / V := Int.ediv_nonneg P0 (by omega)
  have q1 : val (rs.drop j) / V < 65536 := Int.ediv_lt_of_lt_mul hV0 (by rw [Int.mul_comm]; exact w2)
  have m1 : val (rs.drop j) % V < V := Int.emod_lt_of_pos _ hV0
  have e1 := Int.mul_ediv_add_emod (val (rs.drop j)) V
  have e2 := val_cut (xs := rs) (k := j) (by omega)
  have e3 : val (mixW rs j ws) = val (rs.take j) + 65536 ^ j * val ws := by
    unfold mixW
    rw [List.append_assoc, val_append, val_append, wl, show j + (m + 1) = j + m + 1 by omega, z, List.length_take, Nat.min_eq_left (by omega)]
    simp
  have e4 : (mixW rs j ws).drop j = ws ++ rs.drop (j + ws.length) := by
    unfold mixW
    rw [List.append_assoc, List.drop_append, List.drop_of_length_le (by simp; omega), List.length_take, Nat.min_eq_left (by omega), Nat.sub_self, List.drop_zero, List.nil_append]
  refine ⟨by rw [mixW_len _ _ _ (by omega)]; exact hl, mixW_ok h.ro wo, by simp only [List.length_cons]; omega, okL_cons.2 ⟨⟨q0, by omega⟩, h.zo⟩, ?_, ?_⟩
  · have hv := h.v
    rw [Int.pow_succ] at hv
    rw [e3, wv]
    simp only [val]
    rw [e2] at hv
    generalize val (rs.drop j) / V = q at *
    generalize val (rs.drop j) % V = r at *
    generalize val (rs.drop j) = P at *
    generalize (65536 : Int) ^ j = p at *
    have f1 : V * p * (q + 65536 * val zs) = p * (V * q) + V * (p * 65536) * val zs := by
      rw [Int.mul_add, Int.mul_comm V p, Int.mul_assoc p V q, ← Int.mul_assoc (p * V) 65536 (val zs), Int.mul_assoc p V 65536, Int.mul_comm V 65536, ← Int.mul_assoc p 65536 V, Int.mul_comm (p * 65536) V]
    have f2 : p * P = p * (V * q) + p * r := by rw [← e1, Int.mul_add]
    rw [f1]
    omega
  · rw [e4, val_append, wl, show j + (m + 1) = j + m + 1 by omega, z, wv]
    simpa using m1
theorem DivL.done {rs zs : List Int} {m e : Nat} {X Y p : Int} (h : DivL rs zs 0 m e (Y * p) (X * p)) (hp : 0 < p) (hY : 0 < Y) : val zs = X / Y ∧ val rs / p = X % Y := by
  have hv := h.v
  have lt := h.lt
  rw [List.drop_zero] at lt
  have r0 := val_nonneg h.ro
  rw [Int.pow_zero, Int.mul_one] at hv
  have hV : 0 < Y * p := Int.mul_pos hY hp
  have q : X * p / (Y * p) = val zs := by
    rw [← hv, Int.add_mul_ediv_left _ _ (by omega), Int.ediv_eq_zero_of_lt r0 lt]; omega
  have r : X * p % (Y * p) = val rs := by
    rw [← hv, Int.add_mul_emod_self_left, Int.emod_eq_of_lt r0 lt]
  constructor
  · rw [← q, Int.mul_ediv_mul_of_pos_left _ _ hp]
  · rw [← r, Int.mul_comm X p, Int.mul_comm Y p, Int.mul_emod_mul_of_pos _ _ hp, Int.mul_ediv_cancel_left _ (by omega)]
theorem Nm.len_eq {zs : List Int} {V : Int} {m : Nat} (h : Nm zs V) (hm : 1 ≤ m) (h1 : 65536 ^ (m - 1) ≤ V) (h2 : V < 65536 ^ m) : zs.length = m := by
  have l := val_lt h.ok
  rw [h.v] at l
  rcases Nat.lt_trichotomy zs.length m with h' | h' | h'
  · have := pow_mono (show zs.length ≤ m - 1 by omega); omega
  · exact h'
  · have t := top_le h.ok h.tr (by omega)
    rw [h.v] at t
    have := pow_mono (show m ≤ zs.length - 1 by omega)
    omega
theorem top_pos {ys : List Int} {m : Nat} (h : okL ys) (t : trim ys = ys) (hl : ys.length = m) (hm : 1 ≤ m) : 1 ≤ ys.getD (m - 1) 0 ∧ val ys < 65536 ^ (m - 1) * (ys.getD (m - 1) 0 + 1) ∧ 65536 ^ (m - 1) * ys.getD (m - 1) 0 ≤ val ys := by
  have e := val_take_succ ys (m - 1)
  rw [show m - 1 + 1 = m by omega, List.take_of_length_le (by omega)] at e
  have t' := top_le h t (by omega)
  rw [hl] at t'
  have l := val_lt (okL_take h (m - 1))
  rw [List.length_take, Nat.min_eq_left (by omega)] at l
  have l0 := val_nonneg (okL_take h (m - 1))
  have hp : (0 : Int) < 65536 ^ (m - 1) := Int.pow_pos (by omega)
  have b := okL_get h (m - 1)
  generalize ys.getD (m - 1) 0 = y at *
  refine ⟨?_, by rw [Int.mul_add]; omega, by omega⟩
  rcases Int.lt_or_le y 1 with h' | h'
  · have e0 : y = 0 := by omega
    rw [e0] at e
    omega
  · exact h'
/-- A shift that fills the uppermost limb makes no limb more. -/
theorem shift_len {ys : List Int} {m s : Nat} (h : okL ys) (t : trim ys = ys) (hl : ys.length = m) (hm : 1 ≤ m) (hs : ys.getD (m - 1) 0 * 2 ^ s < 65536) (hs1 : s ≤ 15) (hd : ∃ r : Int, 2 ^ s * r = 65536) : 65536 ^ (m - 1) ≤ val ys * 2 ^ s ∧ val ys * 2 ^ s < 65536 ^ m := by
  obtain ⟨a, b, c⟩ := top_pos h t hl hm
  obtain ⟨p0, p1⟩ := pow2_le s hs1
  obtain ⟨r, hr⟩ := hd
  have hp : (0 : Int) < 65536 ^ (m - 1) := Int.pow_pos (by omega)
  have e : (65536 : Int) ^ m = 65536 ^ (m - 1) * 65536 := by have := Int.pow_succ (65536 : Int) (m - 1); rw [show (m - 1).succ = m by omega] at this; exact this
  generalize ys.getD (m - 1) 0 = y at *
  generalize (2 : Int) ^ s = p at *
  have hy : (y + 1) * p ≤ 65536 := by
    have : y < r := Int.lt_of_mul_lt_mul_left (a := p) (by rw [Int.mul_comm]; omega) (by omega)
    have : (y + 1) * p ≤ r * p := Int.mul_le_mul_of_nonneg_right (by omega) (by omega)
    rw [Int.mul_comm r p] at this
    omega
  constructor
  · have h1 : 65536 ^ (m - 1) * 1 ≤ 65536 ^ (m - 1) * y := Int.mul_le_mul_of_nonneg_left a (by omega)
    have h2 : val ys * 1 ≤ val ys * p := Int.mul_le_mul_of_nonneg_left (by omega) (by have := val_nonneg h; omega)
    omega
  · have h1 : val ys * p < 65536 ^ (m - 1) * (y + 1) * p := Int.mul_lt_mul_of_pos_right b p0
    have h2 : 65536 ^ (m - 1) * ((y + 1) * p) ≤ 65536 ^ (m - 1) * 65536 := Int.mul_le_mul_of_nonneg_left hy (by omega)
    rw [Int.mul_assoc] at h1
    omega
theorem pow2_div (s : Nat) (h : s ≤ 15) : ∃ r : Int, 2 ^ s * r = 65536 := ⟨2 ^ (16 - s), by rw [← Int.pow_add, show s + (16 - s) = 16 by omega]; rfl⟩
theorem pow2_top {x : Int} {n s : Nat} (h : x < 2 ^ n) (hs : n + s = 16) : x * 2 ^ s < 65536 := by
  have hp : (0 : Int) < 2 ^ s := Int.pow_pos (by omega)
  have := Int.mul_lt_mul_of_pos_right h hp
  rw [← Int.pow_add, hs] at this
  exact this
theorem owns_but {w w' : World} {base g g' L : Nat} {xs : List Value} (h : w.ownsRow base 3 1 (.slice (some ⟨g, 0, none⟩) L L) L xs) (hb : But g' (g' + 1) w w') (hne : g ≠ g') : w'.ownsRow base 3 1 (.slice (some ⟨g, 0, none⟩) L L) L xs := by
  obtain ⟨h1, h2⟩ := h
  refine ⟨h1, ?_⟩
  rcases h2 with ⟨h', _⟩ | ⟨q, cap, cur, hv, hg, hh, r⟩
  · simp at h'
  · have e := hv
    simp only [Value.slice.injEq, Option.some.injEq, Addr.mk.injEq, and_true, true_and] at e
    obtain ⟨rfl, rfl⟩ := e
    refine .inr ⟨g, L, cur, rfl, hg, ?_, r⟩
    rw [hb.block g (Array.getElem?_eq_some_iff.1 hh).1 (by omega)]
    exact hh
theorem but_below {w w0 w' : World} {g : Nat} (hb : But g (g + 1) w w') (h : Below w0.heap.size w0 w) (hg : w0.heap.size ≤ g) : Below w0.heap.size w0 w' := hb.below h hg h.size
end Go.Proofs.YtdgonpbponnnaaaGreatDoor

/- Plain mathematics: limbs made one by one with a carry, and masks and shifts of the machine as remainders and quotients. No condition beyond those typed. -/
import Derived.Test.YtdgonpbponnnaaaGreatDoorTrim
import Derived.Laws.BitsLemmas
namespace Go.Proofs.YtdgonpbponnnaaaGreatDoor
open Go.RowKit
set_option linter.unusedVariables false
set_option maxRecDepth 100000
set_option linter.unusedSimpArgs false

theorem and_mask (n : Int) : bits .and .i64 n 65535 = n % 65536 := by
  have h16 : (BitVec.ofInt 64 65535).toNat = 2 ^ 16 - 1 := by decide
  have key : (BitVec.ofInt 64 n &&& BitVec.ofInt 64 65535).toNat = (n % ((2 ^ 64 : Nat) : Int)).toNat % 2 ^ 16 := by
    rw [BitVec.toNat_and, BitVec.toNat_ofInt, h16, Nat.and_two_pow_sub_one_eq_mod]
  show IntKind.i64.wrap ((BitVec.ofInt 64 n &&& BitVec.ofInt 64 65535).toNat : Nat) = n % 65536
  rw [key, IntKind.wrap_i64]
  omega

theorem val_take_succ (xs : List Int) (k : Nat) : val (xs.take (k + 1)) = val (xs.take k) + 65536 ^ k * xs.getD k 0 := by
  by_cases h : k < xs.length
  · rw [take_succ' h, val_snoc, List.length_take, Nat.min_eq_left (by omega)]
  · rw [List.take_of_length_le (by omega), List.take_of_length_le (by omega)]
    have e : xs.getD k 0 = 0 := by simp [h]
    rw [e]; simp

/-- k limbs zs and a carry cy stand for V. -/
structure Acc (zs : List Int) (k : Nat) (cy V : Int) : Prop where
  len : zs.length = k
  ok : okL zs
  v : val zs + 65536 ^ k * cy = V
theorem Acc.start : Acc [] 0 0 0 := ⟨rfl, okL_nil, by simp [val]⟩
theorem Acc.step {zs : List Int} {k : Nat} {cy V : Int} (h : Acc zs k cy V) (t : Int) : Acc (zs ++ [t % 65536]) (k + 1) (t / 65536) (V + 65536 ^ k * (t - cy)) := by
  refine ⟨by simp [h.len], okL_append h.ok (okL_one (by omega) (by omega)), ?_⟩
  rw [val_snoc, h.len, Int.pow_succ]
  have e : t % 65536 + 65536 * (t / 65536) = t := by omega
  have e2 : (65536 : Int) ^ k * (t % 65536) + 65536 ^ k * 65536 * (t / 65536) = 65536 ^ k * t := by
    rw [Int.mul_assoc, ← Int.mul_add, e]
  have e3 := h.v
  have e4 : (65536 : Int) ^ k * (t - cy) = 65536 ^ k * t - 65536 ^ k * cy := by rw [Int.mul_sub]
  omega
theorem Acc.cast {zs : List Int} {k : Nat} {cy V V' : Int} (h : Acc zs k cy V) (e : V = V') : Acc zs k cy V' := e ▸ h

/-- A row of n limbs, of which the first ones are zs and the others 0. -/
def rowL (zs : List Int) (n : Nat) : List Int := zs ++ List.replicate (n - zs.length) 0
theorem rowL_nil (n : Nat) : rowL [] n = List.replicate n 0 := by simp [rowL]
theorem rowL_len (zs : List Int) (n : Nat) (h : zs.length ≤ n) : (rowL zs n).length = n := by simp [rowL]; omega
theorem rowL_full (zs : List Int) (n : Nat) (h : zs.length = n) : rowL zs n = zs := by simp [rowL, h]
theorem rowL_set (zs : List Int) (n : Nat) (d : Int) (h : zs.length < n) : (rowL zs n).set zs.length d = rowL (zs ++ [d]) n := by
  unfold rowL
  rw [List.set_append_right _ _ (Nat.le_refl _), Nat.sub_self, show n - zs.length = (n - zs.length - 1) + 1 by omega, List.replicate_succ, List.set_cons_zero]
  simp
  omega
theorem rowL_owns {w : World} {base g n : Nat} {zs : List Int} (h : w.ownsRow base 3 1 (.slice (some ⟨g, 0, none⟩) n n) n ((rowL zs n).map (Value.int .i64))) {k : Nat} (hk : zs.length = k) (hkn : k < n) (d : Int) :
    w.cell? ⟨g, k, none⟩ = some (.int .i64 ((rowL zs n).getD k 0)) ∧ w.frozen? ⟨g, k, none⟩ = false ∧
    (w.setCell ⟨g, k, none⟩ (.int .i64 d)).ownsRow base 3 1 (.slice (some ⟨g, 0, none⟩) n n) n ((rowL (zs ++ [d]) n).map (Value.int .i64)) := by
  refine ⟨?_, h.frozenAt k, ?_⟩
  · rw [h.cellAt k (by omega)]
    simp [rowL_len zs n (by omega), hkn]
  · have := (h.stored k (.int .i64 d)).1
    rw [← rowL_set zs n d (by omega), List.map_set, hk]
    exact this

/-- A call answers limbs of V, in memory of its own. -/
def Out (w : World) (V : Int) (e : Ending) (w' : World) : Prop :=
  ∃ a n c zs, e = .returned (.slice a n c) ∧ Below w.heap.size w w' ∧ Own w.heap.size w' a zs ∧ Arg w' a n c zs ∧ Nm zs V
/-- The same, noughts at the end not yet taken off. -/
def OutU (w : World) (V : Int) (m : Nat) (e : Ending) (w' : World) : Prop :=
  ∃ a n c zs, e = .returned (.slice a n c) ∧ Below w.heap.size w w' ∧ Own w.heap.size w' a zs ∧ Arg w' a n c zs ∧ okL zs ∧ val zs = V ∧ zs.length ≤ m
theorem Sl.at {w : World} {a : Option Addr} {xs : List Int} (h : Sl w a xs) {k : Nat} (hk : k < xs.length) : ∃ b off, a = some ⟨b, off, none⟩ ∧ w.cell? ⟨b, off + k, none⟩ = some (.int .i64 (xs.getD k 0)) := by
  rcases h with rfl | ⟨b, off, rfl, _, hc⟩
  · simp at hk
  · exact ⟨b, off, rfl, hc k hk⟩
end Go.Proofs.YtdgonpbponnnaaaGreatDoor

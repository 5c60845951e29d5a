/- Sums of numbers with signs: the program's addSigned and the specification's l1Add. No condition beyond those typed. -/
import Derived.Test.YtdgonpbponnnaaaOrd
import Derived.Test.YtdgonpbponnnaaaTwo
import Derived.Deep.RegionHeld3
namespace Go.Proofs.Ytdgonpbponnnaaa
open Go.RowKit
set_option linter.unusedVariables false
set_option maxRecDepth 100000
set_option linter.unusedSimpArgs false

theorem Own.set {base : Nat} {w : World} {a : Option Addr} {zs : List Int} (h : Own base w a zs) {p : Addr} (hp : p.block < base) (v : Value) : Own base (w.setCell p v) a zs := by
  rcases h with h | ⟨b, cur, rfl, h1, hg, hc⟩
  · exact .inl h
  · exact .inr ⟨b, cur, rfl, h1, by rw [Below.heap_setCell _ _ _ _ (by omega)]; exact hg, hc⟩
theorem fin_set {w w2 : World} {a : Option Addr} {n c : Nat} {zs : List Int} {s : Nat} (hs : w.heap.size ≤ s) (hb : Below w.heap.size w w2) (ho : Own (s + 1) w2 a zs) (ha : Arg w2 a n c zs) (v v' : Value) :
    Below w.heap.size w ((w2.setCell ⟨s, 0, none⟩ v).setCell ⟨s, 1, none⟩ v') ∧ Own w.heap.size ((w2.setCell ⟨s, 0, none⟩ v).setCell ⟨s, 1, none⟩ v') a zs ∧ Arg ((w2.setCell ⟨s, 0, none⟩ v).setCell ⟨s, 1, none⟩ v') a n c zs := by
  have h2 := (ho.set (p := ⟨s, 0, none⟩) (by show s < s + 1; omega) v).set (p := ⟨s, 1, none⟩) (by show s < s + 1; omega) v'
  exact ⟨(hb.setCell hs _).setCell hs _, h2.mono (by omega), ⟨h2.sl, ha.len, ha.cap, ha.top, ha.addr⟩⟩
theorem Arg.drew {w : World} {a : Option Addr} {n c : Nat} {xs : List Int} (h : Arg w a n c xs) : Arg w.drew a n c xs := h.later (Below.refl _ _).drew
theorem frozen_later {w wx : World} {b o : Nat} (hb : Below w.heap.size w wx) (hlt : b < w.heap.size) (h : w.frozen? ⟨b, o, none⟩ = false) : wx.frozen? ⟨b, o, none⟩ = false := by
  rw [hb.frozen (p := ⟨b, o, none⟩) hlt]; exact h
theorem below_three (w : World) (o o' o'' : Obj) : Below w.heap.size w (((w.alloc o).alloc o').alloc o'') := (((Below.refl _ _).alloc (Nat.le_refl _) _).alloc (by simp) _).alloc (by simp; omega) _

/-- A number as an argument: its limbs in memory, none too great, no nought at the end. -/
structure Num (w : World) (a : Option Addr) (n c : Nat) (xs : List Int) : Prop where
  arg : Arg w a n c xs
  ok : okL xs
  tr : trim xs = xs
  sh : n ≤ 1000000
theorem Num.later {w w' : World} {a : Option Addr} {n c : Nat} {xs : List Int} (h : Num w a n c xs) (hb : Below w.heap.size w w') : Num w' a n c xs := ⟨h.arg.later hb, h.ok, h.tr, h.sh⟩

/-- The sign of U, or of what is as far below 0. -/
def sd (g : Bool) (U : Int) : Bool := decide ((if g then -U else U) < 0)

theorem signI_out (g : Bool) (a : Option Addr) (n c : Nat) (zs : List Int) (w : World) (base : Nat) (U : Int) (ha : Arg w a n c zs) (ho : Own base w a zs) (hk : okL zs) (hv : val zs = U) (hb : base ≤ w.heap.size) (h1 : n ≤ 1048576) :
    Calls Try.prog 16 #[.bool g, .slice a n c] w fun e w' => ∃ a2 n2 c2 ts, e = .returned (.agg #[.bool (sd g U), .slice a2 n2 c2]) ∧ Below w.heap.size w w' ∧ Own base w' a2 ts ∧ Arg w' a2 n2 c2 ts ∧ Nm ts U := by
  refine (sign_any g a n c zs w ha).mono ?_
  rintro e w' ⟨a2, n2, c2, rfl, hb2, ha2, ho2⟩
  have hn : Nm (trim zs) U := hv ▸ Nm.trimmed hk
  exact ⟨a2, n2, c2, _, by rw [sgn_val hn]; rfl, hb2, ho2 base ho, ha2, hn⟩
theorem signS_out (g : Bool) (a : Option Addr) (n c : Nat) (zs : List Int) (w : World) (base : Nat) (U : Int) (ha : Arg w a n c zs) (ho : Own base w a zs) (hk : okL zs) (hv : val zs = U) (hb : base ≤ w.heap.size) (h1 : n ≤ 1048576) :
    Calls Try.prog 13 #[.bool g, .slice a n c] w fun e w' => ∃ a2 n2 c2 ts, e = .returned (.agg #[.bool (sd g U), .slice a2 n2 c2]) ∧ Below w.heap.size w w' ∧ Own base w' a2 ts ∧ Arg w' a2 n2 c2 ts ∧ Nm ts U := by
  refine (make_any g a n c zs w ha h1).mono ?_
  rintro e w' ⟨a2, n2, c2, rfl, hb2, ho2, ha2⟩
  have hn : Nm (trim zs) U := hv ▸ Nm.trimmed hk
  exact ⟨a2, n2, c2, _, by rw [sgn_val hn]; rfl, hb2, ho2.mono hb, ha2, hn⟩

/-- The last step of a sum: what the sign's call has left is the answer. -/
theorem outB_of {w w2 : World} {a : Option Addr} {n c : Nat} {ts : List Int} {s : Nat} {U V : Int} {g : Bool} (hs : w.heap.size ≤ s) (hb : Below w.heap.size w w2) (ho : Own (s + 1) w2 a ts) (ha : Arg w2 a n c ts) (hn : Nm ts U) (hV : V = if g then -U else U) (v v' : Value) :
    OutB w V (.returned (.agg #[.bool (sd g U), .slice a n c])) ((w2.setCell ⟨s, 0, none⟩ v).setCell ⟨s, 1, none⟩ v') := by
  obtain ⟨f1, f2, f3⟩ := fin_set hs hb ho ha v v'
  refine ⟨a, n, c, ts, by rw [hV]; rfl, f1, f2, f3, ?_⟩
  rw [natAbs_sign hn.nonneg hV]
  exact hn
theorem sub_len {zs xs ys : List Int} (h : Nm zs (val xs - val ys)) (ox : okL xs) (oy : okL ys) : zs.length ≤ xs.length := by
  refine len_of_val ox h.ok h.tr ?_
  rw [h.v]
  have := val_nonneg oy
  omega

theorem add_len {w : World} {zs xs ys : List Int} {a a' : Option Addr} {n m c c' : Nat} (h : Nm zs (val xs + val ys)) (hx : Num w a n c xs) (hy : Num w a' m c' ys) : zs.length ≤ 1048576 := by
  by_cases h0 : zs.length = 0
  · omega
  have h1 := top_le h.ok h.tr (by omega)
  have h2 := val_lt hx.ok
  have h3 := val_lt hy.ok
  rw [h.v] at h1
  have h4 := pow_mono (show xs.length ≤ 1000000 by rw [hx.arg.len]; exact hx.sh)
  have h5 := pow_mono (show ys.length ≤ 1000000 by rw [hy.arg.len]; exact hy.sh)
  by_cases hl : zs.length ≤ 1048576
  · exact hl
  · have h6 := pow_mono (show 1000001 ≤ zs.length - 1 by omega)
    rw [Int.pow_succ] at h6
    have h7 : (0 : Int) < 65536 ^ 1000000 := Int.pow_pos (by omega)
    generalize (65536 : Int) ^ 1000000 = P at *
    omega

theorem three_size (w : World) (o o' o'' : Obj) : w.heap.size + 1 + 1 + 1 ≤ (((w.alloc o).alloc o').alloc o'').drew.heap.size := by simp

end Go.Proofs.Ytdgonpbponnnaaa

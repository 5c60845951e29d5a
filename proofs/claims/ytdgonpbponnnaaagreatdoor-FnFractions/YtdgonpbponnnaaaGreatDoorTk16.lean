/- strconv's table of powers, Itoa, Repeat of noughts. No condition beyond those typed. Written by mkbt16.py. -/
import Derived.Test.YtdgonpbponnnaaaGreatDoorDg16
import Derived.Test.YtdgonpbponnnaaaGreatDoorShelf
import Derived.Lib.Join
import Derived.Lib.LaidTab
namespace Go.Proofs.YtdgonpbponnnaaaGreatDoor
open Go.RowKit
set_option linter.unusedVariables false
set_option maxRecDepth 100000
set_option linter.unusedSimpArgs false

/-- strconv's table of powers lies where it is laid. -/
structure Tab15 (w : World) : Prop where
  is : Lib.TabIs Tryz.prog w "internal/strconv.uint64pow10" .u64 Lib.pow10Tab
theorem g15 : Tryz.prog.globalNamed "internal/strconv.uint64pow10" = some 0 := by kernel_rfl
theorem Tab15.later {w w' : World} (h : Tab15 w) (hb : Below w.heap.size w w') : Tab15 w' := by
  refine ⟨?_⟩
  have h := h.is
  unfold Lib.TabIs World.var? at h ⊢
  rw [g15] at h ⊢
  simp only [Option.bind_some] at h ⊢
  rw [hb.block _ (by
    rcases Nat.lt_or_ge 0 w.heap.size with h' | h'
    · exact h'
    · rw [Array.getElem?_eq_none h'] at h; cases h)]
  exact h
/-- What Itoa (114) lays, lays above. -/
theorem grow_below15 (w : World) (k : Nat) (os : Array Obj) : Below w.heap.size w (Sort.grow (w.drewN k) os) :=
  ⟨rfl, rfl, rfl, by show w.heap.size ≤ (w.heap ++ os).size; rw [Array.size_append]; omega, fun j hj => by show (w.heap ++ os)[j]? = w.heap[j]?; exact Array.getElem?_append_left hj⟩
theorem itoaI (x : Nat) (w : World) (hx : x < 10 ^ 18) (h : Tab15 w) :
    Calls Tryz.prog 114 #[.int .i64 (x : Int)] w fun e w' => e = .returned (.string (st (Lib.decDigits x))) ∧ Below w.heap.size w w' := by
  refine (Tryz.strconv_Itoa (x : Int) (by omega) (by omega) w h.is).mono ?_
  rintro e w' ⟨rfl, k, os, rfl⟩
  refine ⟨?_, grow_below15 w k os⟩
  have : Lib.itoa (x : Int) = Lib.decDigits x := by unfold Lib.itoa; rw [if_neg (by omega)]; simp
  rw [this]; rfl
/-- Noughts (for 115). -/
theorem rep48 : ∀ c, Lib.repeatL [48] c = List.replicate c 48
  | 0 => rfl
  | c + 1 => by rw [Lib.repeatL, rep48 c]; rfl
theorem repeatI (c : Nat) (w : World) (hc : c ≤ 1000) :
    Calls Tryz.prog 115 #[.string { data := #[48] }, .int .i64 (c : Int)] w fun e w' => e = .returned (.string (st (List.replicate c 48))) ∧ Below w.heap.size w w' := by
  refine (Tryz.strings_Repeat { data := #[48] } c w (by omega) (by show 1 * c ≤ _; omega)).mono ?_
  rintro e w' ⟨rfl, hb⟩
  refine ⟨?_, hb⟩
  rw [show ({ data := #[48] } : ByteArray).data.toList = [48] from rfl, rep48]
  rfl
end Go.Proofs.YtdgonpbponnnaaaGreatDoor

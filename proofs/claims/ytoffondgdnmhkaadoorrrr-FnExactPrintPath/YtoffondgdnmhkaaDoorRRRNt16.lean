/- Numbers as texts with their sign; both sides' NumberText. No condition beyond those typed. Written by mknt16.py. -/
import Derived.Test.YtoffondgdnmhkaaDoorRRRNum15
import Derived.Test.YtoffondgdnmhkaaDoorRRRIm8
import Derived.Test.YtoffondgdnmhkaaDoorRRRShelf
import Derived.Lib.Join
import Derived.Lib.LaidTab
namespace Go.Proofs.YtoffondgdnmhkaaDoorRRR
open Go.RowKit
set_option linter.unusedVariables false
set_option maxRecDepth 100000
set_option linter.unusedSimpArgs false

/-- strconv's table of powers lies where it is laid. -/
structure Tab15 (w : World) : Prop where
  is : Lib.TabIs Tryd.prog w "internal/strconv.uint64pow10" .u64 Lib.pow10Tab
theorem g15 : Tryd.prog.globalNamed "internal/strconv.uint64pow10" = some 0 := by kernel_rfl
theorem Tab15.later {w w' : World} (h : Tab15 w) (hb : Below w.heap.size w w') : Tab15 w' := by
  refine ⟨?_⟩
  have h := h.is
  unfold Lib.TabIs World.var? at h ⊢
  rw [g15] at h ⊢
  simp only [Option.bind_some] at h ⊢
  rw [hb.block _ (by
    rcases Nat.lt_or_ge 0 w.heap.size with h' | h'
    · exact h'
    · rw [Array.getElem?_eq_none h'] at h; cases h)]
  exact h
theorem grow_below15 (w : World) (k : Nat) (os : Array Obj) : Below w.heap.size w (Sort.grow (w.drewN k) os) :=
  ⟨rfl, rfl, rfl, by show w.heap.size ≤ (w.heap ++ os).size; rw [Array.size_append]; omega, fun j hj => by show (w.heap ++ os)[j]? = w.heap[j]?; exact Array.getElem?_append_left hj⟩
theorem itoaZ (x : Int) (w : World) (h0 : -1000000 ≤ x) (hx : x ≤ 1000000) (h : Tab15 w) :
    Calls Tryd.prog 15 #[.int .i64 x] w fun e w' => e = .returned (.string (st (Lib.itoa x))) ∧ Below w.heap.size w w' := by
  refine (Tryd.strconv_Itoa x (by omega) (by omega) w h.is).mono ?_
  rintro e w' ⟨rfl, k, os, rfl⟩
  exact ⟨rfl, grow_below15 w k os⟩
theorem itoa_neg {n : Int} (h : n < 0) : Lib.itoa n = 45 :: Lib.decDigits n.natAbs := by unfold Lib.itoa; rw [if_pos h]
theorem itoa_pos {n : Int} (h : ¬ n < 0) : Lib.itoa n = Lib.decDigits n.toNat := by unfold Lib.itoa; rw [if_neg h]
theorem itoa_len {n : Int} (h0 : -9999 ≤ n) (h1 : n ≤ 9999) : (Lib.itoa n).length ≤ 5 := by
  by_cases c : n < 0
  · rw [itoa_neg c, List.length_cons]
    have := dd_len 3 n.natAbs (by omega)
    omega
  · rw [itoa_pos c]
    have := dd_len 3 n.toNat (by omega)
    omega
set_option maxHeartbeats 4000000 in
theorem num16S (n : Int) (w : World) (h0 : -9999 ≤ n) (h1 : n ≤ 9999) :
    Calls Tryd.prog 13 #[.int .i64 n] w fun e w' => e = .returned (.string (st (Lib.itoa n))) ∧ Below w.heap.size w w' := by
  by_cases c : n < 0
  · have wn : IntKind.i64.wrap (-n) = ((n.natAbs : Nat) : Int) := by rw [IntKind.wrap_i64]; omega
    have C := hide (fun w => numS 4 n.natAbs (by omega) (by omega) w)
    have E : Hid (({ data := #[45] } : ByteArray) ++ st (Lib.decDigits n.natAbs) = st (Lib.itoa n)) := hide (by rw [itoa_neg c]; exact st_add [45] _)
    have sz := dd_len 4 n.natAbs (by omega)
    have hsz : (st (Lib.decDigits n.natAbs)).size ≤ 10 := by rw [st_size]; omega
    generalize Lib.decDigits n.natAbs = D at *
    generalize Lib.itoa n = R at *
    clear sz
    go_enter Tryd.func13, Tryd.ntmps13
    go_wp2_with fail
    refine (unhide C _).mono ?_
    rintro e w1 ⟨rfl, hb⟩
    have hz : ¬ (9223372036854775807 < ((1 : Int) + ((st D).size : Int))) := by omega
    have hz2 : ¬ (9223372036854775807 < 1 + (st D).size) := by omega
    go_wp2_with fail
    rw [unhide E]
    go_ret
    exact ⟨rfl, hb⟩
  · have C := hide (fun w => numS 4 n.toNat (by omega) (by omega) w)
    have e : ((n.toNat : Nat) : Int) = n := by omega
    rw [e] at C
    rw [itoa_pos c]
    go_enter Tryd.func13, Tryd.ntmps13
    go_wp2_with fail
    refine (unhide C _).mono ?_
    rintro e w1 ⟨rfl, hb⟩
    go_wp2_with fail
    go_ret
    exact ⟨rfl, hb⟩
/-- NumberText's answer. -/
def ntB (n : Int) : Bool := inR n (-9999) 9999
def ntV (n : Int) : List UInt8 := if ntB n = true then Lib.itoa n else []
theorem NumberTextS (n : Int) (w : World) :
    Calls Tryd.prog 5 #[.int .i64 n] w fun e w' => e = .returned (.tuple #[.string (st (ntV n)), .bool (ntB n)]) ∧ Below w.heap.size w w' := by
  have C1 := hide (fun w => inS8 n (-9999) 9999 w)
  unfold ntV ntB
  cases d : inR n (-9999) 9999
  · rw [d] at C1
    go_enter Tryd.func5, Tryd.ntmps5
    go_wp2_with fail
    refine (unhide C1 _).mono ?_
    rintro e w1 ⟨rfl, rfl⟩
    go_wp2_with fail
    go_ret2
    exact ⟨rfl, Below.refl _ _⟩
  · have b := inR_le d
    have C2 := hide (fun w => num16S n w b.1 b.2)
    rw [d] at C1
    rw [if_pos rfl]
    clear d b
    go_enter Tryd.func5, Tryd.ntmps5
    go_wp2_with fail
    refine (unhide C1 _).mono ?_
    rintro e w1 ⟨rfl, rfl⟩
    go_wp2_with fail
    refine (unhide C2 _).mono ?_
    rintro e w2 ⟨rfl, hb⟩
    go_wp2_with fail
    go_ret2
    exact ⟨rfl, hb⟩
theorem NumberTextI (n : Int) (w : World) (ht : Tab15 w) :
    Calls Tryd.prog 6 #[.int .i64 n] w fun e w' => e = .returned (.tuple #[.string (st (ntV n)), .bool (ntB n)]) ∧ Below w.heap.size w w' := by
  have C1 := hide (fun w => withinI n 9999 w (by omega) (by omega))
  unfold ntV ntB
  cases d : inR n (-9999) 9999
  · rw [d] at C1
    go_enter Tryd.func6, Tryd.ntmps6
    go_wp2_with fail
    refine (unhide C1 _).mono ?_
    rintro e w1 ⟨rfl, rfl⟩
    go_wp2_with fail
    go_ret2
    exact ⟨rfl, Below.refl _ _⟩
  · have b := inR_le d
    have C2 := hide (fun w (k : Tab15 w) => itoaZ n w (by omega) (by omega) k)
    have HT := hide ht
    rw [d] at C1
    rw [if_pos rfl]
    clear d b ht
    go_enter Tryd.func6, Tryd.ntmps6
    go_wp2_with fail
    refine (unhide C1 _).mono ?_
    rintro e w1 ⟨rfl, rfl⟩
    go_wp2_with fail
    refine (unhide C2 _ (unhide HT)).mono ?_
    rintro e w2 ⟨rfl, hb⟩
    go_wp2_with fail
    go_ret2
    exact ⟨rfl, hb⟩
end Go.Proofs.YtoffondgdnmhkaaDoorRRR

/- PrintPath, both sides, by value. No condition beyond those typed. Written by mkpp16.py. -/
import Derived.Test.YtoffondgdnmhkaaDoorRRRPs16
import Derived.Test.YtoffondgdnmhkaaDoorRRRPi16
namespace Go.Proofs.YtoffondgdnmhkaaDoorRRR
open Go.RowKit
set_option linter.unusedVariables false
set_option maxRecDepth 100000
set_option linter.unusedSimpArgs false

/-- What PrintPath tells. -/
def ppB (D : List (List (Int × Int))) : Bool := gWs D && decide ((txW D D.length).length ≤ 400)
def ppV (D : List (List (Int × Int))) : ByteArray := if ppB D = true then st (txW D D.length) else st []
theorem fitsI16 (T : List UInt8) (w : World) :
    Calls Tryd.prog 23 #[.string (st T)] w fun e w' => e = .returned (.bool (decide (T.length ≤ 400))) ∧ w' = w := by
  have sz := st_size T
  cases d : decide (T.length ≤ 400)
  · have h := of_decide_eq_false d
    have h2 : ¬ ((st T).size ≤ 400) := by omega
    have h3 : ¬ (((st T).size : Int) ≤ 400) := by omega
    have h4 : decide (((st T).size : Int) ≤ 400) = false := decide_eq_false h3
    have h5 : decide ((st T).size ≤ 400) = false := decide_eq_false h2
    clear sz d h
    go_enter Tryd.func23, Tryd.ntmps23
    go_wp2
    go_ret
    exact ⟨rfl, rfl⟩
  · have h := of_decide_eq_true d
    have h2 : (st T).size ≤ 400 := by omega
    have h3 : ((st T).size : Int) ≤ 400 := by omega
    have h4 : decide (((st T).size : Int) ≤ 400) = true := decide_eq_true h3
    have h5 : decide ((st T).size ≤ 400) = true := decide_eq_true h2
    clear sz d h
    go_enter Tryd.func23, Tryd.ntmps23
    go_wp2
    go_ret
    exact ⟨rfl, rfl⟩
theorem whereI16 (T : List UInt8) (w : World) :
    Calls Tryd.prog 21 #[.string (st T), .func (Fn.func 23) #[] #[]] w fun e w' => e = .returned (.tuple #[.string (if T.length ≤ 400 then st T else st []), .bool (decide (T.length ≤ 400))]) ∧ w' = w := by
  have C := hide (fun w => fitsI16 T w)
  by_cases h : T.length ≤ 400
  · rw [if_pos h]
    rw [decide_eq_true h] at C ⊢
    clear h
    go_enter Tryd.func21, Tryd.ntmps21
    go_wp2_with fail
    refine (unhide C _).mono ?_
    rintro e w1 ⟨rfl, rfl⟩
    go_wp2_with fail
    go_ret2
    exact ⟨rfl, rfl⟩
  · rw [if_neg h]
    rw [decide_eq_false h] at C ⊢
    clear h
    go_enter Tryd.func21, Tryd.ntmps21
    go_wp2_with fail
    refine (unhide C _).mono ?_
    rintro e w1 ⟨rfl, rfl⟩
    go_wp2_with fail
    go_ret2
    exact ⟨rfl, rfl⟩
set_option maxHeartbeats 4000000 in
theorem PrintPathS (a : Option Addr) (n c : Nat) (rs : List RW) (w : World) (h : WSl w a rs) (hn : rs.length = n) (h1 : n ≤ 1048576) :
    Calls Tryd.prog 8 #[.slice a n c] w fun e w' => e = .returned (.tuple #[.string (ppV (dW rs)), .bool (ppB (dW rs))]) ∧ Below w.heap.size w w' := by
  have C1 := hide (fun w (k : WSl w a rs) => GoodWaysS a n c rs w k hn h1)
  have HS := hide h
  unfold ppV ppB
  rw [show (dW rs).length = n by rw [dW_len, hn]]
  cases hg : gWs (dW rs)
  · rw [hg] at C1
    clear hg h hn h1
    go_enter Tryd.func8, Tryd.ntmps8
    go_wp2_with fail
    refine (unhide C1 _ (unhide HS)).mono ?_
    rintro e w1 ⟨rfl, hb⟩
    go_wp2_with fail
    go_ret2
    exact ⟨rfl, hb⟩
  · have C2 := hide (fun w (k : WSl w a rs) => printS a n c rs w k hn hg)
    rw [hg] at C1
    simp only [Bool.true_and]
    generalize txW (dW rs) n = T at *
    clear hg h hn h1
    have sz := st_size T
    by_cases t4 : T.length ≤ 400
    · rw [if_pos (decide_eq_true t4), decide_eq_true t4]
      have h2 : ¬ (400 < (st T).size) := by omega
      have h3 : ¬ ((400 : Int) < ((st T).size : Int)) := by omega
      have h4 : decide ((400 : Int) < ((st T).size : Int)) = false := decide_eq_false h3
      have h5 : decide (400 < (st T).size) = false := decide_eq_false h2
      clear sz t4
      go_enter Tryd.func8, Tryd.ntmps8
      go_wp2_with fail
      refine (unhide C1 _ (unhide HS)).mono ?_
      rintro e w1 ⟨rfl, hb⟩
      replace HS := hide ((unhide HS).later hb)
      have HB := hide hb
      clear hb
      go_wp2_with fail
      refine (unhide C2 _ (unhide HS)).mono ?_
      rintro e w2 ⟨rfl, hb⟩
      replace HB := hide (below_on (unhide HB) hb)
      clear hb
      go_wp2_with fail
      go_ret2
      exact ⟨rfl, unhide HB⟩
    · rw [if_neg (by simpa using t4), decide_eq_false t4]
      have h2 : 400 < (st T).size := by omega
      have h3 : (400 : Int) < ((st T).size : Int) := by omega
      have h4 : decide ((400 : Int) < ((st T).size : Int)) = true := decide_eq_true h3
      have h5 : decide (400 < (st T).size) = true := decide_eq_true h2
      clear sz t4
      go_enter Tryd.func8, Tryd.ntmps8
      go_wp2_with fail
      refine (unhide C1 _ (unhide HS)).mono ?_
      rintro e w1 ⟨rfl, hb⟩
      replace HS := hide ((unhide HS).later hb)
      have HB := hide hb
      clear hb
      go_wp2_with fail
      refine (unhide C2 _ (unhide HS)).mono ?_
      rintro e w2 ⟨rfl, hb⟩
      replace HB := hide (below_on (unhide HB) hb)
      clear hb
      go_wp2_with fail
      go_ret2
      exact ⟨rfl, unhide HB⟩
set_option maxHeartbeats 4000000 in
theorem PrintPathI (a : Option Addr) (n c : Nat) (rs : List RW) (w : World) (h : WSl w a rs) (hn : rs.length = n) (h1 : n ≤ 1048576) (ht : Tab15 w) :
    Calls Tryd.prog 10 #[.slice a n c] w fun e w' => e = .returned (.tuple #[.string (ppV (dW rs)), .bool (ppB (dW rs))]) ∧ Below w.heap.size w w' := by
  have C1 := hide (fun w (k : WSl w a rs) => GoodWaysI a n c rs w k hn h1)
  have HS := hide h
  have HT := hide ht
  clear ht
  unfold ppV ppB
  rw [show (dW rs).length = n by rw [dW_len, hn]]
  cases hg : gWs (dW rs)
  · rw [hg] at C1
    clear hg h hn h1
    go_enter Tryd.func10, Tryd.ntmps10
    go_wp2_with fail
    refine (unhide C1 _ (unhide HS)).mono ?_
    rintro e w1 ⟨rfl, hb⟩
    go_wp2_with fail
    go_ret2
    exact ⟨rfl, hb⟩
  · have C2 := hide (fun w (k : WSl w a rs) (t : Tab15 w) => pathTextI a n c rs w k hn hg t)
    rw [hg] at C1
    simp only [Bool.true_and, decide_eq_true_eq]
    generalize txW (dW rs) n = T at *
    clear hg h hn h1
    have C3 := hide (fun w => whereI16 T w)
    generalize (if T.length ≤ 400 then st T else st []) = V at *
    generalize decide (T.length ≤ 400) = b at *
    go_enter Tryd.func10, Tryd.ntmps10
    go_wp2_with fail
    refine (unhide C1 _ (unhide HS)).mono ?_
    rintro e w1 ⟨rfl, hb⟩
    replace HS := hide ((unhide HS).later hb)
    replace HT := hide ((unhide HT).later hb)
    have HB := hide hb
    clear hb
    go_wp2_with fail
    refine (unhide C2 _ (unhide HS) (unhide HT)).mono ?_
    rintro e w2 ⟨rfl, hb⟩
    replace HB := hide (below_on (unhide HB) hb)
    clear hb
    go_wp2_with fail
    refine (unhide C3 _).mono ?_
    rintro e w3 ⟨rfl, rfl⟩
    go_wp2_with fail
    go_ret2
    exact ⟨rfl, unhide HB⟩
end Go.Proofs.YtoffondgdnmhkaaDoorRRR

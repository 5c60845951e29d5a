/- GoodWays, both sides. No condition beyond those typed. Written by mkww16.py. -/
import Derived.Test.YtoffondgdnmhkaaDoorRRRWw16
import Derived.Test.YtoffondgdnmhkaaDoorRRRIm8
namespace Go.Proofs.YtoffondgdnmhkaaDoorRRR
open Go.RowKit
set_option linter.unusedVariables false
set_option maxRecDepth 100000
set_option linter.unusedSimpArgs false

/-- One to four ways, each a way round. -/
def gWs (D : List (List (Int × Int))) : Bool := inR (D.length : Int) 1 4 && D.all wayB
theorem dW_all (rs : List RW) : (dW rs).all wayB = rs.all (fun r => wayB r.l) := by unfold dW; rw [List.all_map]; rfl
theorem all_takeW {rs : List RW} {i : Nat} (hi : i < rs.length) (h : (rs.take i).all (fun r => wayB r.l) = true) (hy : wayB rs[i].l = true) : (rs.take (i + 1)).all (fun r => wayB r.l) = true := by
  rw [take_succW hi, List.all_append, h]; simp [hy]
theorem all_badW {rs : List RW} {y : RW} (hm : y ∈ rs) (hy : wayB y.l = false) : rs.all (fun r => wayB r.l) = false := by
  rw [List.all_eq_false]
  exact ⟨y, hm, by simp [hy]⟩
set_option maxHeartbeats 4000000 in
theorem GoodWaysI (a : Option Addr) (n c : Nat) (rs : List RW) (w : World) (h : WSl w a rs) (hn : rs.length = n) (h1 : n ≤ 1048576) :
    Calls Tryd.prog 20 #[.slice a n c] w fun e w' => e = .returned (.bool (gWs (dW rs))) ∧ Below w.heap.size w w' := by
  have HS := hide h
  have HN := hide hn
  have EV : Hid (gWs (dW rs) = (inR (n : Int) 1 4 && rs.all (fun r => wayB r.l))) := hide (by unfold gWs; rw [dW_len, hn, dW_all])
  rw [unhide EV]
  clear EV h hn
  by_cases z : n = 0
  · subst z
    go_enter Tryd.func20, Tryd.ntmps20
    go_wp2
    go_ret
    exact ⟨rfl, Below.refl _ _⟩
  by_cases z4 : 4 < n
  · have d0 : ((n : Int) == 0) = false := by simpa using z
    have d1 : decide ((4 : Int) < (n : Int)) = true := decide_eq_true (by omega)
    have IR : inR (n : Int) 1 4 = false := by unfold inR; rw [decide_eq_false (show ¬ (n : Int) ≤ 4 by omega), Bool.and_false]
    rw [IR]
    have z' : ¬ ((n : Int) = 0) := by omega
    have z4' : (4 : Int) < (n : Int) := by omega
    go_enter Tryd.func20, Tryd.ntmps20
    go_wp2
    go_ret
    exact ⟨rfl, Below.refl _ _⟩
  have IR : inR (n : Int) 1 4 = true := by unfold inR; rw [decide_eq_true (show (1 : Int) ≤ (n : Int) by omega), decide_eq_true (show (n : Int) ≤ 4 by omega)]; rfl
  rw [IR]
  have z' : ¬ ((n : Int) = 0) := by omega
  have d0 : ((n : Int) == 0) = false := by simpa using z
  have d1 : decide ((4 : Int) < (n : Int)) = false := decide_eq_false (by omega)
  have z4' : ¬ (4 : Int) < (n : Int) := by omega
  clear z z4 IR
  go_enter Tryd.func20, Tryd.ntmps20
  go_wp2
  go_loopw [15] (fun iv wr => ∃ (i : Nat), i ≤ n ∧ iv = .int .i64 i ∧ Hid ((rs.take i).all (fun r => wayB r.l) = true) ∧ Hid (Below w.heap.size w wr)) (fun iv _ => n - (intOf iv).toNat)
  case atStart => exact ⟨0, Nat.zero_le _, rfl, hide (by simp), hide (Below.refl _ _)⟩
  case round =>
    obtain ⟨i, hi, rfl, HA, HB⟩ := hrel
    by_cases hlt : i < n
    · have hlt' : (i : Int) < (n : Int) := by omega
      rcases (unhide HS).at_ with e | ⟨b, off, rfl, hb, hc⟩
      · exact absurd (unhide HN) (by rw [e]; simp; omega)
      have e0 := hc i (by rw [unhide HN]; exact hlt)
      obtain ⟨y, hy⟩ : ∃ y, y = rs[i]'(by rw [unhide HN]; exact hlt) := ⟨_, rfl⟩
      rw [← hy] at e0
      have MY : Hid (y ∈ rs) := hide (by rw [hy]; exact List.getElem_mem _)
      have TK : Hid (wayB y.l = true → (rs.take (i + 1)).all (fun r => wayB r.l) = true) := hide (fun k => all_takeW (by rw [unhide HN]; exact hlt) (unhide HA) (by rw [← hy]; exact k))
      clear hy
      have E0 : wr.cell? ⟨b, off + i, none⟩ = some (.slice y.a y.n y.c) := ((unhide HB).cell (p := ⟨b, off + i, none⟩) hb).trans e0
      clear e0 hc
      have ry := (unhide HS).rd y (unhide MY)
      have CS := hide (wayI y.a y.n y.c y.l wr (ry.1.later (unhide HB)) ry.2.1 ry.2.2)
      clear ry
      cases g : wayB y.l
      · rw [g] at CS
        have BAD : Hid (rs.all (fun r => wayB r.l) = false) := hide (all_badW (unhide MY) g)
        clear g
        go_wp2_with fail
        refine (unhide CS).mono ?_
        rintro e w1 ⟨rfl, hb1⟩
        have HB1 := hide (below_on (unhide HB) hb1)
        clear hb1 E0
        go_wp2
        go_ret
        exact ⟨by rw [unhide BAD, Bool.and_false]; rfl, unhide HB1⟩
      · rw [g] at CS
        have TK2 := hide (unhide TK g)
        clear g TK
        go_wp2_with fail
        refine (unhide CS).mono ?_
        rintro e w1 ⟨rfl, hb1⟩
        have HB1 := hide (below_on (unhide HB) hb1)
        clear hb1 E0
        go_wp2
        go_roundw
        case rel => exact ⟨i + 1, by omega, by go_num, TK2, HB1⟩
        case measure => simp [intOf]; omega
    · obtain rfl : i = n := by omega
      have ALL : Hid (rs.all (fun r => wayB r.l) = true) := hide (by have := unhide HA; rw [← unhide HN, List.take_length] at this; exact this)
      go_wp2
      go_ret
      exact ⟨by rw [unhide ALL]; rfl, unhide HB⟩
set_option maxHeartbeats 4000000 in
theorem GoodWaysS (a : Option Addr) (n c : Nat) (rs : List RW) (w : World) (h : WSl w a rs) (hn : rs.length = n) (h1 : n ≤ 1048576) :
    Calls Tryd.prog 17 #[.slice a n c] w fun e w' => e = .returned (.bool (gWs (dW rs))) ∧ Below w.heap.size w w' := by
  have HS := hide h
  have HN := hide hn
  have EV : Hid (gWs (dW rs) = (inR (n : Int) 1 4 && rs.all (fun r => wayB r.l))) := hide (by unfold gWs; rw [dW_len, hn, dW_all])
  rw [unhide EV]
  clear EV h hn
  have CI := hide (fun w => inS8 (n : Int) 1 4 w)
  generalize inR (n : Int) 1 4 = g at *
  go_enter Tryd.func17, Tryd.ntmps17
  go_wp2
  go_loopw [7] (fun iv wr => ∃ (i : Nat), i ≤ n ∧ iv = .int .i64 i ∧ Hid ((rs.take i).all (fun r => wayB r.l) = true) ∧ Hid (Below w.heap.size w wr)) (fun iv _ => n - (intOf iv).toNat)
  case atStart => exact ⟨0, Nat.zero_le _, rfl, hide (by simp), hide (Below.refl _ _)⟩
  case round =>
    obtain ⟨i, hi, rfl, HA, HB⟩ := hrel
    by_cases hlt : i < n
    · have hlt' : (i : Int) < (n : Int) := by omega
      rcases (unhide HS).at_ with e | ⟨b, off, rfl, hb, hc⟩
      · exact absurd (unhide HN) (by rw [e]; simp; omega)
      have e0 := hc i (by rw [unhide HN]; exact hlt)
      obtain ⟨y, hy⟩ : ∃ y, y = rs[i]'(by rw [unhide HN]; exact hlt) := ⟨_, rfl⟩
      rw [← hy] at e0
      have MY : Hid (y ∈ rs) := hide (by rw [hy]; exact List.getElem_mem _)
      have TK : Hid (wayB y.l = true → (rs.take (i + 1)).all (fun r => wayB r.l) = true) := hide (fun k => all_takeW (by rw [unhide HN]; exact hlt) (unhide HA) (by rw [← hy]; exact k))
      clear hy
      have E0 : wr.cell? ⟨b, off + i, none⟩ = some (.slice y.a y.n y.c) := ((unhide HB).cell (p := ⟨b, off + i, none⟩) hb).trans e0
      clear e0 hc
      have ry := (unhide HS).rd y (unhide MY)
      have CS := hide (wayS y.a y.n y.c y.l wr (ry.1.later (unhide HB)) ry.2.1 ry.2.2)
      clear ry
      cases g : wayB y.l
      · rw [g] at CS
        have BAD : Hid (rs.all (fun r => wayB r.l) = false) := hide (all_badW (unhide MY) g)
        clear g
        go_wp2_with fail
        refine (unhide CS).mono ?_
        rintro e w1 ⟨rfl, hb1⟩
        have HB1 := hide (below_on (unhide HB) hb1)
        clear hb1 E0
        go_wp2
        go_ret
        exact ⟨by rw [unhide BAD, Bool.and_false]; rfl, unhide HB1⟩
      · rw [g] at CS
        have TK2 := hide (unhide TK g)
        clear g TK
        go_wp2_with fail
        refine (unhide CS).mono ?_
        rintro e w1 ⟨rfl, hb1⟩
        have HB1 := hide (below_on (unhide HB) hb1)
        clear hb1 E0
        go_wp2
        go_roundw
        case rel => exact ⟨i + 1, by omega, by go_num, TK2, HB1⟩
        case measure => simp [intOf]; omega
    · obtain rfl : i = n := by omega
      have ALL : Hid (rs.all (fun r => wayB r.l) = true) := hide (by have := unhide HA; rw [← unhide HN, List.take_length] at this; exact this)
      go_wp2_with fail
      refine (unhide CI _).mono ?_
      rintro e w1 ⟨rfl, rfl⟩
      go_wp2
      go_ret
      exact ⟨by rw [unhide ALL, Bool.and_true]; rfl, unhide HB⟩
end Go.Proofs.YtoffondgdnmhkaaDoorRRR

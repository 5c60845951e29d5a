/- The draws of chapter 8's laws; two lists of points held against each other. No condition beyond those typed. Written by mkdrw8.py. -/
import Derived.Test.YtomekmhonfofkaaGreatDr8
namespace Go.Proofs.YtomekmhonfofkaaGreat
open Go.RowKit
set_option linter.unusedVariables false
set_option maxRecDepth 100000
set_option linter.unusedSimpArgs false

def OutSM (w : World) (e : Ending) (w' : World) : Prop := ∃ p q r s : Int × Int, e = .returned (.tuple #[.agg #[.int .i64 p.1, .int .i64 p.2], .agg #[.int .i64 q.1, .int .i64 q.2], .agg #[.int .i64 r.1, .int .i64 r.2], .agg #[.int .i64 s.1, .int .i64 s.2]]) ∧ (Near p ∧ Near q ∧ Near r ∧ Near s) ∧ Below w.heap.size w w'
set_option maxHeartbeats 4000000 in
theorem drawSM (a : Option Addr) (n c : Nat) (w : World) (h : ArY w a n) :
    Calls Tryz.prog 44 #[.slice a n c] w (OutSM w) := by
  have e0 : ((((w.alloc (.cells #[.int .i64 0, .int .i64 0] 37)).alloc (.cells #[.int .i64 0, .int .i64 0] 37)).alloc (.cells #[.int .i64 0, .int .i64 0] 37)).alloc (.cells #[.int .i64 0, .int .i64 0] 37)).heap.size = w.heap.size + 1 + 1 + 1 + 1 := by simp
  have CU : Hid (Cur (w.heap.size + 1 + 1 + 1 + 1) 0 (((((w.alloc (.cells #[.int .i64 0, .int .i64 0] 37)).alloc (.cells #[.int .i64 0, .int .i64 0] 37)).alloc (.cells #[.int .i64 0, .int .i64 0] 37)).alloc (.cells #[.int .i64 0, .int .i64 0] 37)).alloc (.cells #[.slice a n c, .int .i64 0, .int .u64 0] 68))) := hide (e0 ▸ Cur.new (w := ((((w.alloc (.cells #[.int .i64 0, .int .i64 0] 37)).alloc (.cells #[.int .i64 0, .int .i64 0] 37)).alloc (.cells #[.int .i64 0, .int .i64 0] 37)).alloc (.cells #[.int .i64 0, .int .i64 0] 37))) (h.later (((((Below.refl _ _).alloc (Nat.le_refl _) _).alloc (by simp) _).alloc (by simp; omega) _).alloc (by simp; omega) _)))
  have BW : Hid (Below w.heap.size w (((((w.alloc (.cells #[.int .i64 0, .int .i64 0] 37)).alloc (.cells #[.int .i64 0, .int .i64 0] 37)).alloc (.cells #[.int .i64 0, .int .i64 0] 37)).alloc (.cells #[.int .i64 0, .int .i64 0] 37)).alloc (.cells #[.slice a n c, .int .i64 0, .int .u64 0] 68))) := hide ((((((Below.refl _ _).alloc (Nat.le_refl _) _).alloc (by simp) _).alloc (by simp; omega) _).alloc (by simp; omega) _).alloc (by simp; omega) _)
  have z0 : w.heap.size = w.heap.size := by simp
  have R0 : Hid (BxP (((((w.alloc (.cells #[.int .i64 0, .int .i64 0] 37)).alloc (.cells #[.int .i64 0, .int .i64 0] 37)).alloc (.cells #[.int .i64 0, .int .i64 0] 37)).alloc (.cells #[.int .i64 0, .int .i64 0] 37)).alloc (.cells #[.slice a n c, .int .i64 0, .int .u64 0] 68)) (w.heap.size) 0 0) := hide (z0 ▸ ((((BxP.new.later ((Below.refl _ _).alloc (Nat.le_refl _) _)).later ((Below.refl _ _).alloc (Nat.le_refl _) _)).later ((Below.refl _ _).alloc (Nat.le_refl _) _)).later ((Below.refl _ _).alloc (Nat.le_refl _) _)))
  clear z0
  have z1 : (w.alloc (.cells #[.int .i64 0, .int .i64 0] 37)).heap.size = w.heap.size + 1 := by simp
  have R1 : Hid (BxP (((((w.alloc (.cells #[.int .i64 0, .int .i64 0] 37)).alloc (.cells #[.int .i64 0, .int .i64 0] 37)).alloc (.cells #[.int .i64 0, .int .i64 0] 37)).alloc (.cells #[.int .i64 0, .int .i64 0] 37)).alloc (.cells #[.slice a n c, .int .i64 0, .int .u64 0] 68)) (w.heap.size + 1) 0 0) := hide (z1 ▸ (((BxP.new.later ((Below.refl _ _).alloc (Nat.le_refl _) _)).later ((Below.refl _ _).alloc (Nat.le_refl _) _)).later ((Below.refl _ _).alloc (Nat.le_refl _) _)))
  clear z1
  have z2 : ((w.alloc (.cells #[.int .i64 0, .int .i64 0] 37)).alloc (.cells #[.int .i64 0, .int .i64 0] 37)).heap.size = w.heap.size + 1 + 1 := by simp
  have R2 : Hid (BxP (((((w.alloc (.cells #[.int .i64 0, .int .i64 0] 37)).alloc (.cells #[.int .i64 0, .int .i64 0] 37)).alloc (.cells #[.int .i64 0, .int .i64 0] 37)).alloc (.cells #[.int .i64 0, .int .i64 0] 37)).alloc (.cells #[.slice a n c, .int .i64 0, .int .u64 0] 68)) (w.heap.size + 1 + 1) 0 0) := hide (z2 ▸ ((BxP.new.later ((Below.refl _ _).alloc (Nat.le_refl _) _)).later ((Below.refl _ _).alloc (Nat.le_refl _) _)))
  clear z2
  have z3 : (((w.alloc (.cells #[.int .i64 0, .int .i64 0] 37)).alloc (.cells #[.int .i64 0, .int .i64 0] 37)).alloc (.cells #[.int .i64 0, .int .i64 0] 37)).heap.size = w.heap.size + 1 + 1 + 1 := by simp
  have R3 : Hid (BxP (((((w.alloc (.cells #[.int .i64 0, .int .i64 0] 37)).alloc (.cells #[.int .i64 0, .int .i64 0] 37)).alloc (.cells #[.int .i64 0, .int .i64 0] 37)).alloc (.cells #[.int .i64 0, .int .i64 0] 37)).alloc (.cells #[.slice a n c, .int .i64 0, .int .u64 0] 68)) (w.heap.size + 1 + 1 + 1) 0 0) := hide (z3 ▸ (BxP.new.later ((Below.refl _ _).alloc (Nat.le_refl _) _)))
  clear z3
  have s0 : w.heap.size + 1 + 1 + 1 + 1 + 1 ≤ (((((w.alloc (.cells #[.int .i64 0, .int .i64 0] 37)).alloc (.cells #[.int .i64 0, .int .i64 0] 37)).alloc (.cells #[.int .i64 0, .int .i64 0] 37)).alloc (.cells #[.int .i64 0, .int .i64 0] 37)).alloc (.cells #[.slice a n c, .int .i64 0, .int .u64 0] 68)).heap.size := by simp
  clear h e0
  go_enter Tryz.func44, Tryz.ntmps44
  go_wp2_with fail
  refine (pt_v (w.heap.size + 1 + 1 + 1 + 1) 0 _ (unhide CU) (by omega)).mono ?_
  rintro e w1 ⟨p, rfl, np, c1, bt⟩
  have CU2 := hide c1
  have BW2 := hide (bt.below (unhide BW) (by omega) (by omega))
  have RR0 := hide ((unhide R0).keep bt (.inl (by omega)))
  have RR1 := hide ((unhide R1).keep bt (.inl (by omega)))
  have RR2 := hide ((unhide R2).keep bt (.inl (by omega)))
  have RR3 := hide ((unhide R3).keep bt (.inl (by omega)))
  have ss := bt.size
  have Np := hide np
  clear np
  clear CU BW R0 R1 R2 R3 bt c1
  have CU := CU2
  have BW := BW2
  have R0 := RR0
  have R1 := RR1
  have R2 := RR2
  have R3 := RR3
  clear CU2 BW2 RR0 RR1 RR2 RR3
  have sw1 := Nat.le_trans s0 ss
  clear ss
  go_wp2_with fail
  refine (pt_v (w.heap.size + 1 + 1 + 1 + 1) 6 _ (unhide CU) (by omega)).mono ?_
  rintro e w2 ⟨q, rfl, nq, c1, bt⟩
  have CU2 := hide c1
  have BW2 := hide (bt.below (unhide BW) (by omega) (by omega))
  have RR0 := hide ((unhide R0).keep bt (.inl (by omega)))
  have RR1 := hide ((unhide R1).keep bt (.inl (by omega)))
  have RR2 := hide ((unhide R2).keep bt (.inl (by omega)))
  have RR3 := hide ((unhide R3).keep bt (.inl (by omega)))
  have ss := bt.size
  have Nq := hide nq
  clear nq
  clear CU BW R0 R1 R2 R3 bt c1
  have CU := CU2
  have BW := BW2
  have R0 := RR0
  have R1 := RR1
  have R2 := RR2
  have R3 := RR3
  clear CU2 BW2 RR0 RR1 RR2 RR3
  have sw2 := Nat.le_trans sw1 ss
  clear ss
  go_wp2_with fail
  refine (pt_v (w.heap.size + 1 + 1 + 1 + 1) 12 _ (unhide CU) (by omega)).mono ?_
  rintro e w3 ⟨r, rfl, nr, c1, bt⟩
  have CU2 := hide c1
  have BW2 := hide (bt.below (unhide BW) (by omega) (by omega))
  have RR0 := hide ((unhide R0).keep bt (.inl (by omega)))
  have RR1 := hide ((unhide R1).keep bt (.inl (by omega)))
  have RR2 := hide ((unhide R2).keep bt (.inl (by omega)))
  have RR3 := hide ((unhide R3).keep bt (.inl (by omega)))
  have ss := bt.size
  have Nr := hide nr
  clear nr
  clear CU BW R0 R1 R2 R3 bt c1
  have CU := CU2
  have BW := BW2
  have R0 := RR0
  have R1 := RR1
  have R2 := RR2
  have R3 := RR3
  clear CU2 BW2 RR0 RR1 RR2 RR3
  have sw3 := Nat.le_trans sw2 ss
  clear ss
  go_wp2_with fail
  refine (pt_v (w.heap.size + 1 + 1 + 1 + 1) 18 _ (unhide CU) (by omega)).mono ?_
  rintro e w4 ⟨s, rfl, ns, c1, bt⟩
  have CU2 := hide c1
  have BW2 := hide (bt.below (unhide BW) (by omega) (by omega))
  have RR0 := hide ((unhide R0).keep bt (.inl (by omega)))
  have RR1 := hide ((unhide R1).keep bt (.inl (by omega)))
  have RR2 := hide ((unhide R2).keep bt (.inl (by omega)))
  have RR3 := hide ((unhide R3).keep bt (.inl (by omega)))
  have ss := bt.size
  have Ns := hide ns
  clear ns
  clear CU BW R0 R1 R2 R3 bt c1
  have CU := CU2
  have BW := BW2
  have R0 := RR0
  have R1 := RR1
  have R2 := RR2
  have R3 := RR3
  clear CU2 BW2 RR0 RR1 RR2 RR3
  have sw4 := Nat.le_trans sw3 ss
  clear ss
  have r00 := (unhide R0).c0
  have r01 := (unhide R0).c1
  have rf0 := (unhide R0).fz
  have r10 := (unhide R1).c0
  have r11 := (unhide R1).c1
  have rf1 := (unhide R1).fz
  have r20 := (unhide R2).c0
  have r21 := (unhide R2).c1
  have rf2 := (unhide R2).fz
  have r30 := (unhide R3).c0
  have r31 := (unhide R3).c1
  have rf3 := (unhide R3).fz
  clear R0 R1 R2 R3 CU
  have F0 := hide ((unhide BW).trans (set_below8 (w := w4) (G := w.heap.size) (u := .int .i64 p.1) (v := .int .i64 p.2) (Nat.le_refl _) (by omega)))
  have e1 : ((w4.setCell ⟨w.heap.size, 0, none⟩ (.int .i64 p.1)).setCell ⟨w.heap.size, 1, none⟩ (.int .i64 p.2)).heap.size = w4.heap.size := by simp
  have F1 := hide ((unhide F0).trans (set_below8 (G := w.heap.size + 1) (u := .int .i64 q.1) (v := .int .i64 q.2) (by omega) (by rw [e1]; omega)))
  have e2 : ((((w4.setCell ⟨w.heap.size, 0, none⟩ (.int .i64 p.1)).setCell ⟨w.heap.size, 1, none⟩ (.int .i64 p.2)).setCell ⟨w.heap.size + 1, 0, none⟩ (.int .i64 q.1)).setCell ⟨w.heap.size + 1, 1, none⟩ (.int .i64 q.2)).heap.size = w4.heap.size := by simp
  have F2 := hide ((unhide F1).trans (set_below8 (G := w.heap.size + 1 + 1) (u := .int .i64 r.1) (v := .int .i64 r.2) (by omega) (by rw [e2]; omega)))
  have e3 : ((((((w4.setCell ⟨w.heap.size, 0, none⟩ (.int .i64 p.1)).setCell ⟨w.heap.size, 1, none⟩ (.int .i64 p.2)).setCell ⟨w.heap.size + 1, 0, none⟩ (.int .i64 q.1)).setCell ⟨w.heap.size + 1, 1, none⟩ (.int .i64 q.2)).setCell ⟨w.heap.size + 1 + 1, 0, none⟩ (.int .i64 r.1)).setCell ⟨w.heap.size + 1 + 1, 1, none⟩ (.int .i64 r.2)).heap.size = w4.heap.size := by simp
  have F3 := hide ((unhide F2).trans (set_below8 (G := w.heap.size + 1 + 1 + 1) (u := .int .i64 s.1) (v := .int .i64 s.2) (by omega) (by rw [e3]; omega)))
  clear e1 e2 e3 F0 F1 F2 BW
  go_wp2_with fail
  refine bodyPost_ret (v := .tuple #[.agg #[.int .i64 p.1, .int .i64 p.2], .agg #[.int .i64 q.1, .int .i64 q.2], .agg #[.int .i64 r.1, .int .i64 r.2], .agg #[.int .i64 s.1, .int .i64 s.2]]) (by simp [results, Tryz.results44, go_sem, r00, r01, r10, r11, r20, r21, r30, r31]) rfl ?_
  exact ⟨p, q, r, s, rfl, ⟨unhide Np, unhide Nq, unhide Nr, unhide Ns⟩, unhide F3⟩
def OutGI (w : World) (e : Ending) (w' : World) : Prop := ∃ x y : Int, e = .returned (.tuple #[.int .i64 x, .int .i64 y]) ∧ (-100000 ≤ x ∧ x ≤ 100000 ∧ -100000 ≤ y ∧ y ≤ 100000) ∧ Below w.heap.size w w'
theorem ints_at (w : World) (zs : List Int) : ∀ i, i < zs.length → (w.alloc (.cells (zs.map (Value.int .i64)).toArray 3)).cell? ⟨w.heap.size, 0 + i, none⟩ = some (.int .i64 (zs.getD i 0)) := by
  intro i hi
  rw [Nat.zero_add, List.getD_eq_getElem?_getD, List.getElem?_eq_getElem hi]
  simp [go_sem, hi]
def OutWP (w : World) (e : Ending) (w' : World) : Prop := ∃ (a : Option Addr) (n c : Nat) (l : List (Int × Int)) (q : Int × Int), e = .returned (.tuple #[.slice a n c, .agg #[.int .i64 q.1, .int .i64 q.2]]) ∧ ArP w' a n c l ∧ (∀ p ∈ l, Near p) ∧ n ≤ 20 ∧ Near q ∧ Below w.heap.size w w'
def OutWy (w : World) (e : Ending) (w' : World) : Prop := ∃ (a : Option Addr) (n c : Nat) (l : List (Int × Int)), e = .returned (.slice a n c) ∧ ArP w' a n c l ∧ (∀ p ∈ l, Near p) ∧ n ≤ 20 ∧ Below w.heap.size w w'
theorem ar_but8 {w w' : World} {C n c : Nat} {a : Option Addr} {l : List (Int × Int)} (h : ArP w a n c l) (hb : But C (C + 1) w w') (hG : ∃ G, a = some ⟨G, 0, none⟩ ∧ C < G) : ArP w' a n c l := by
  refine ⟨?_, h.len, h.cap, h.top⟩
  obtain ⟨G, rfl, hC⟩ := hG
  rcases h.sl with h | ⟨b, off, e, h1, h2⟩
  · exact .inl h
  · simp only [Option.some.injEq, Addr.mk.injEq, and_true] at e
    obtain ⟨rfl, rfl⟩ := e
    exact .inr ⟨G, 0, rfl, Nat.lt_of_lt_of_le h1 hb.size, fun i hi => ⟨hb.cell (h2 i hi).1 (.inr (by omega)), hb.cell (h2 i hi).2 (.inr (by omega))⟩⟩
end Go.Proofs.YtomekmhonfofkaaGreat

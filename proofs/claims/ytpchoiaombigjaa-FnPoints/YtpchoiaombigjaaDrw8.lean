/- The draws of chapter 8's laws; two lists of points held against each other. No condition beyond those typed. Written by mkdrw8.py. -/
import Derived.Test.YtpchoiaombigjaaDr8
namespace Go.Proofs.Ytpchoiaombigjaa
open Go.RowKit
set_option linter.unusedVariables false
set_option maxRecDepth 100000
set_option linter.unusedSimpArgs false

def OutSM (w : World) (e : Ending) (w' : World) : Prop := ∃ p q r s : Int × Int, e = .returned (.tuple #[.agg #[.int .i64 p.1, .int .i64 p.2], .agg #[.int .i64 q.1, .int .i64 q.2], .agg #[.int .i64 r.1, .int .i64 r.2], .agg #[.int .i64 s.1, .int .i64 s.2]]) ∧ (Near p ∧ Near q ∧ Near r ∧ Near s) ∧ Below w.heap.size w w'
set_option maxHeartbeats 4000000 in
theorem drawSM (a : Option Addr) (n c : Nat) (w : World) (h : ArY w a n) :
    Calls Try.prog 16 #[.slice a n c] w (OutSM w) := by
  have e0 : ((((w.alloc (.cells #[.int .i64 0, .int .i64 0] 24)).alloc (.cells #[.int .i64 0, .int .i64 0] 24)).alloc (.cells #[.int .i64 0, .int .i64 0] 24)).alloc (.cells #[.int .i64 0, .int .i64 0] 24)).heap.size = w.heap.size + 1 + 1 + 1 + 1 := by simp
  have CU : Hid (Cur (w.heap.size + 1 + 1 + 1 + 1) 0 (((((w.alloc (.cells #[.int .i64 0, .int .i64 0] 24)).alloc (.cells #[.int .i64 0, .int .i64 0] 24)).alloc (.cells #[.int .i64 0, .int .i64 0] 24)).alloc (.cells #[.int .i64 0, .int .i64 0] 24)).alloc (.cells #[.slice a n c, .int .i64 0, .int .u64 0] 67))) := hide (e0 ▸ Cur.new (w := ((((w.alloc (.cells #[.int .i64 0, .int .i64 0] 24)).alloc (.cells #[.int .i64 0, .int .i64 0] 24)).alloc (.cells #[.int .i64 0, .int .i64 0] 24)).alloc (.cells #[.int .i64 0, .int .i64 0] 24))) (h.later (((((Below.refl _ _).alloc (Nat.le_refl _) _).alloc (by simp) _).alloc (by simp; omega) _).alloc (by simp; omega) _)))
  have BW : Hid (Below w.heap.size w (((((w.alloc (.cells #[.int .i64 0, .int .i64 0] 24)).alloc (.cells #[.int .i64 0, .int .i64 0] 24)).alloc (.cells #[.int .i64 0, .int .i64 0] 24)).alloc (.cells #[.int .i64 0, .int .i64 0] 24)).alloc (.cells #[.slice a n c, .int .i64 0, .int .u64 0] 67))) := hide ((((((Below.refl _ _).alloc (Nat.le_refl _) _).alloc (by simp) _).alloc (by simp; omega) _).alloc (by simp; omega) _).alloc (by simp; omega) _)
  have z0 : w.heap.size = w.heap.size := by simp
  have R0 : Hid (BxP (((((w.alloc (.cells #[.int .i64 0, .int .i64 0] 24)).alloc (.cells #[.int .i64 0, .int .i64 0] 24)).alloc (.cells #[.int .i64 0, .int .i64 0] 24)).alloc (.cells #[.int .i64 0, .int .i64 0] 24)).alloc (.cells #[.slice a n c, .int .i64 0, .int .u64 0] 67)) (w.heap.size) 0 0) := hide (z0 ▸ ((((BxP.new.later ((Below.refl _ _).alloc (Nat.le_refl _) _)).later ((Below.refl _ _).alloc (Nat.le_refl _) _)).later ((Below.refl _ _).alloc (Nat.le_refl _) _)).later ((Below.refl _ _).alloc (Nat.le_refl _) _)))
  clear z0
  have z1 : (w.alloc (.cells #[.int .i64 0, .int .i64 0] 24)).heap.size = w.heap.size + 1 := by simp
  have R1 : Hid (BxP (((((w.alloc (.cells #[.int .i64 0, .int .i64 0] 24)).alloc (.cells #[.int .i64 0, .int .i64 0] 24)).alloc (.cells #[.int .i64 0, .int .i64 0] 24)).alloc (.cells #[.int .i64 0, .int .i64 0] 24)).alloc (.cells #[.slice a n c, .int .i64 0, .int .u64 0] 67)) (w.heap.size + 1) 0 0) := hide (z1 ▸ (((BxP.new.later ((Below.refl _ _).alloc (Nat.le_refl _) _)).later ((Below.refl _ _).alloc (Nat.le_refl _) _)).later ((Below.refl _ _).alloc (Nat.le_refl _) _)))
  clear z1
  have z2 : ((w.alloc (.cells #[.int .i64 0, .int .i64 0] 24)).alloc (.cells #[.int .i64 0, .int .i64 0] 24)).heap.size = w.heap.size + 1 + 1 := by simp
  have R2 : Hid (BxP (((((w.alloc (.cells #[.int .i64 0, .int .i64 0] 24)).alloc (.cells #[.int .i64 0, .int .i64 0] 24)).alloc (.cells #[.int .i64 0, .int .i64 0] 24)).alloc (.cells #[.int .i64 0, .int .i64 0] 24)).alloc (.cells #[.slice a n c, .int .i64 0, .int .u64 0] 67)) (w.heap.size + 1 + 1) 0 0) := hide (z2 ▸ ((BxP.new.later ((Below.refl _ _).alloc (Nat.le_refl _) _)).later ((Below.refl _ _).alloc (Nat.le_refl _) _)))
  clear z2
  have z3 : (((w.alloc (.cells #[.int .i64 0, .int .i64 0] 24)).alloc (.cells #[.int .i64 0, .int .i64 0] 24)).alloc (.cells #[.int .i64 0, .int .i64 0] 24)).heap.size = w.heap.size + 1 + 1 + 1 := by simp
  have R3 : Hid (BxP (((((w.alloc (.cells #[.int .i64 0, .int .i64 0] 24)).alloc (.cells #[.int .i64 0, .int .i64 0] 24)).alloc (.cells #[.int .i64 0, .int .i64 0] 24)).alloc (.cells #[.int .i64 0, .int .i64 0] 24)).alloc (.cells #[.slice a n c, .int .i64 0, .int .u64 0] 67)) (w.heap.size + 1 + 1 + 1) 0 0) := hide (z3 ▸ (BxP.new.later ((Below.refl _ _).alloc (Nat.le_refl _) _)))
  clear z3
  have s0 : w.heap.size + 1 + 1 + 1 + 1 + 1 ≤ (((((w.alloc (.cells #[.int .i64 0, .int .i64 0] 24)).alloc (.cells #[.int .i64 0, .int .i64 0] 24)).alloc (.cells #[.int .i64 0, .int .i64 0] 24)).alloc (.cells #[.int .i64 0, .int .i64 0] 24)).alloc (.cells #[.slice a n c, .int .i64 0, .int .u64 0] 67)).heap.size := by simp
  clear h e0
  go_enter Try.func16, Try.ntmps16
  go_wp2_with fail
  refine (pt_v (w.heap.size + 1 + 1 + 1 + 1) 0 _ (unhide CU) (by omega)).mono ?_
  rintro e w1 ⟨p, rfl, np, c1, bt⟩
  have CU2 := hide c1
  have BW2 := hide (bt.below (unhide BW) (by omega) (by omega))
  have RR0 := hide ((unhide R0).keep bt (.inl (by omega)))
  have RR1 := hide ((unhide R1).keep bt (.inl (by omega)))
  have RR2 := hide ((unhide R2).keep bt (.inl (by omega)))
  have RR3 := hide ((unhide R3).keep bt (.inl (by omega)))
  have ss := bt.size
  have Np := hide np
  clear np
  clear CU BW R0 R1 R2 R3 bt c1
  have CU := CU2
  have BW := BW2
  have R0 := RR0
  have R1 := RR1
  have R2 := RR2
  have R3 := RR3
  clear CU2 BW2 RR0 RR1 RR2 RR3
  have sw1 := Nat.le_trans s0 ss
  clear ss
  go_wp2_with fail
  refine (pt_v (w.heap.size + 1 + 1 + 1 + 1) 6 _ (unhide CU) (by omega)).mono ?_
  rintro e w2 ⟨q, rfl, nq, c1, bt⟩
  have CU2 := hide c1
  have BW2 := hide (bt.below (unhide BW) (by omega) (by omega))
  have RR0 := hide ((unhide R0).keep bt (.inl (by omega)))
  have RR1 := hide ((unhide R1).keep bt (.inl (by omega)))
  have RR2 := hide ((unhide R2).keep bt (.inl (by omega)))
  have RR3 := hide ((unhide R3).keep bt (.inl (by omega)))
  have ss := bt.size
  have Nq := hide nq
  clear nq
  clear CU BW R0 R1 R2 R3 bt c1
  have CU := CU2
  have BW := BW2
  have R0 := RR0
  have R1 := RR1
  have R2 := RR2
  have R3 := RR3
  clear CU2 BW2 RR0 RR1 RR2 RR3
  have sw2 := Nat.le_trans sw1 ss
  clear ss
  go_wp2_with fail
  refine (pt_v (w.heap.size + 1 + 1 + 1 + 1) 12 _ (unhide CU) (by omega)).mono ?_
  rintro e w3 ⟨r, rfl, nr, c1, bt⟩
  have CU2 := hide c1
  have BW2 := hide (bt.below (unhide BW) (by omega) (by omega))
  have RR0 := hide ((unhide R0).keep bt (.inl (by omega)))
  have RR1 := hide ((unhide R1).keep bt (.inl (by omega)))
  have RR2 := hide ((unhide R2).keep bt (.inl (by omega)))
  have RR3 := hide ((unhide R3).keep bt (.inl (by omega)))
  have ss := bt.size
  have Nr := hide nr
  clear nr
  clear CU BW R0 R1 R2 R3 bt c1
  have CU := CU2
  have BW := BW2
  have R0 := RR0
  have R1 := RR1
  have R2 := RR2
  have R3 := RR3
  clear CU2 BW2 RR0 RR1 RR2 RR3
  have sw3 := Nat.le_trans sw2 ss
  clear ss
  go_wp2_with fail
  refine (pt_v (w.heap.size + 1 + 1 + 1 + 1) 18 _ (unhide CU) (by omega)).mono ?_
  rintro e w4 ⟨s, rfl, ns, c1, bt⟩
  have CU2 := hide c1
  have BW2 := hide (bt.below (unhide BW) (by omega) (by omega))
  have RR0 := hide ((unhide R0).keep bt (.inl (by omega)))
  have RR1 := hide ((unhide R1).keep bt (.inl (by omega)))
  have RR2 := hide ((unhide R2).keep bt (.inl (by omega)))
  have RR3 := hide ((unhide R3).keep bt (.inl (by omega)))
  have ss := bt.size
  have Ns := hide ns
  clear ns
  clear CU BW R0 R1 R2 R3 bt c1
  have CU := CU2
  have BW := BW2
  have R0 := RR0
  have R1 := RR1
  have R2 := RR2
  have R3 := RR3
  clear CU2 BW2 RR0 RR1 RR2 RR3
  have sw4 := Nat.le_trans sw3 ss
  clear ss
  have r00 := (unhide R0).c0
  have r01 := (unhide R0).c1
  have rf0 := (unhide R0).fz
  have r10 := (unhide R1).c0
  have r11 := (unhide R1).c1
  have rf1 := (unhide R1).fz
  have r20 := (unhide R2).c0
  have r21 := (unhide R2).c1
  have rf2 := (unhide R2).fz
  have r30 := (unhide R3).c0
  have r31 := (unhide R3).c1
  have rf3 := (unhide R3).fz
  clear R0 R1 R2 R3 CU
  have F0 := hide ((unhide BW).trans (set_below8 (w := w4) (G := w.heap.size) (u := .int .i64 p.1) (v := .int .i64 p.2) (Nat.le_refl _) (by omega)))
  have e1 : ((w4.setCell ⟨w.heap.size, 0, none⟩ (.int .i64 p.1)).setCell ⟨w.heap.size, 1, none⟩ (.int .i64 p.2)).heap.size = w4.heap.size := by simp
  have F1 := hide ((unhide F0).trans (set_below8 (G := w.heap.size + 1) (u := .int .i64 q.1) (v := .int .i64 q.2) (by omega) (by rw [e1]; omega)))
  have e2 : ((((w4.setCell ⟨w.heap.size, 0, none⟩ (.int .i64 p.1)).setCell ⟨w.heap.size, 1, none⟩ (.int .i64 p.2)).setCell ⟨w.heap.size + 1, 0, none⟩ (.int .i64 q.1)).setCell ⟨w.heap.size + 1, 1, none⟩ (.int .i64 q.2)).heap.size = w4.heap.size := by simp
  have F2 := hide ((unhide F1).trans (set_below8 (G := w.heap.size + 1 + 1) (u := .int .i64 r.1) (v := .int .i64 r.2) (by omega) (by rw [e2]; omega)))
  have e3 : ((((((w4.setCell ⟨w.heap.size, 0, none⟩ (.int .i64 p.1)).setCell ⟨w.heap.size, 1, none⟩ (.int .i64 p.2)).setCell ⟨w.heap.size + 1, 0, none⟩ (.int .i64 q.1)).setCell ⟨w.heap.size + 1, 1, none⟩ (.int .i64 q.2)).setCell ⟨w.heap.size + 1 + 1, 0, none⟩ (.int .i64 r.1)).setCell ⟨w.heap.size + 1 + 1, 1, none⟩ (.int .i64 r.2)).heap.size = w4.heap.size := by simp
  have F3 := hide ((unhide F2).trans (set_below8 (G := w.heap.size + 1 + 1 + 1) (u := .int .i64 s.1) (v := .int .i64 s.2) (by omega) (by rw [e3]; omega)))
  clear e1 e2 e3 F0 F1 F2 BW
  go_wp2_with fail
  refine bodyPost_ret (v := .tuple #[.agg #[.int .i64 p.1, .int .i64 p.2], .agg #[.int .i64 q.1, .int .i64 q.2], .agg #[.int .i64 r.1, .int .i64 r.2], .agg #[.int .i64 s.1, .int .i64 s.2]]) (by simp [results, Try.results16, go_sem, r00, r01, r10, r11, r20, r21, r30, r31]) rfl ?_
  exact ⟨p, q, r, s, rfl, ⟨unhide Np, unhide Nq, unhide Nr, unhide Ns⟩, unhide F3⟩
def OutGI (w : World) (e : Ending) (w' : World) : Prop := ∃ x y : Int, e = .returned (.tuple #[.int .i64 x, .int .i64 y]) ∧ (-100000 ≤ x ∧ x ≤ 100000 ∧ -100000 ≤ y ∧ y ≤ 100000) ∧ Below w.heap.size w w'
theorem ints_at (w : World) (zs : List Int) : ∀ i, i < zs.length → (w.alloc (.cells (zs.map (Value.int .i64)).toArray 3)).cell? ⟨w.heap.size, 0 + i, none⟩ = some (.int .i64 (zs.getD i 0)) := by
  intro i hi
  rw [Nat.zero_add, List.getD_eq_getElem?_getD, List.getElem?_eq_getElem hi]
  simp [go_sem, hi]
set_option maxHeartbeats 4000000 in
theorem drawGI (a : Option Addr) (n c : Nat) (w : World) (h : ArY w a n) :
    Calls Try.prog 25 #[.slice a n c] w (OutGI w) := by
  have e0 : w.heap.size = w.heap.size := by simp
  have CU : Hid (Cur (w.heap.size) 0 (w.alloc (.cells #[.slice a n c, .int .i64 0, .int .u64 0] 67))) := hide (e0 ▸ Cur.new (w := w) (h.later (Below.refl _ _)))
  have BW : Hid (Below w.heap.size w (w.alloc (.cells #[.slice a n c, .int .i64 0, .int .u64 0] 67))) := hide ((Below.refl _ _).alloc (Nat.le_refl _) _)
  have s0 : w.heap.size + 1 ≤ (w.alloc (.cells #[.slice a n c, .int .i64 0, .int .u64 0] 67)).heap.size := by simp
  clear h e0
  go_enter Try.func25, Try.ntmps25
  have al : Below (w.alloc (.cells #[.slice a n c, .int .i64 0, .int .u64 0] 67)).heap.size (w.alloc (.cells #[.slice a n c, .int .i64 0, .int .u64 0] 67)) ((w.alloc (.cells #[.slice a n c, .int .i64 0, .int .u64 0] 67)).alloc (.cells #[.int .i64 0, .int .i64 12, .int .i64 (-18), .int .i64 10000, .int .i64 10001, .int .i64 7] 3)) := (Below.refl _ _).alloc (Nat.le_refl _) _
  have CU2 := hide ((unhide CU).later al)
  have BW2 := hide (below_on (unhide BW) al)
  have HC : Hid (∀ i, i < 6 → ((w.alloc (.cells #[.slice a n c, .int .i64 0, .int .u64 0] 67)).alloc (.cells #[.int .i64 0, .int .i64 12, .int .i64 (-18), .int .i64 10000, .int .i64 10001, .int .i64 7] 3)).cell? ⟨(w.alloc (.cells #[.slice a n c, .int .i64 0, .int .u64 0] 67)).heap.size, 0 + i, none⟩ = some (.int .i64 ([0, 12, -18, 10000, 10001, 7].getD i 0))) := hide (ints_at (w.alloc (.cells #[.slice a n c, .int .i64 0, .int .u64 0] 67)) [0, 12, -18, 10000, 10001, 7])
  have lt : (w.alloc (.cells #[.slice a n c, .int .i64 0, .int .u64 0] 67)).heap.size < ((w.alloc (.cells #[.slice a n c, .int .i64 0, .int .u64 0] 67)).alloc (.cells #[.int .i64 0, .int .i64 12, .int .i64 (-18), .int .i64 10000, .int .i64 10001, .int .i64 7] 3)).heap.size := by simp
  clear al CU BW
  have e1 : (w.alloc (.cells #[.slice a n c, .int .i64 0, .int .u64 0] 67)).heap.size = w.heap.size + 1 := by simp
  rw [e1] at HC lt
  clear e1
  go_wp2_with fail
  refine (among_v (w.heap.size) 0 (w.heap.size + 1) 0 6 6 [0, 12, -18, 10000, 10001, 7] _ (unhide CU2) (by omega) (by omega) (by omega) rfl (by omega) lt (unhide HC)).mono ?_
  rintro e w1 ⟨x, rfl, xm, c1, bt⟩
  have CU := hide c1
  have BW := hide (bt.below (unhide BW2) (by omega) (by simp; omega))
  have ss := bt.size
  have Xx : -100000 ≤ x ∧ x ≤ 100000 := by simp at xm; omega
  clear c1 bt HC CU2 BW2 xm lt
  have s1 : w.heap.size + 1 ≤ w1.heap.size := by simp at ss; omega
  clear ss
  have al : Below w1.heap.size w1 (w1.alloc (.cells #[.int .i64 0, .int .i64 8, .int .i64 (-27), .int .i64 (-10000), .int .i64 100] 3)) := (Below.refl _ _).alloc (Nat.le_refl _) _
  have CU2 := hide ((unhide CU).later al)
  have BW2 := hide (below_on (unhide BW) al)
  have HC : Hid (∀ i, i < 5 → (w1.alloc (.cells #[.int .i64 0, .int .i64 8, .int .i64 (-27), .int .i64 (-10000), .int .i64 100] 3)).cell? ⟨w1.heap.size, 0 + i, none⟩ = some (.int .i64 ([0, 8, -27, -10000, 100].getD i 0))) := hide (ints_at w1 [0, 8, -27, -10000, 100])
  have lt : w1.heap.size < (w1.alloc (.cells #[.int .i64 0, .int .i64 8, .int .i64 (-27), .int .i64 (-10000), .int .i64 100] 3)).heap.size := by simp
  clear al CU BW
  go_wp2_with fail
  refine (among_v (w.heap.size) 2 (w1.heap.size) 0 5 5 [0, 8, -27, -10000, 100] _ (unhide CU2) (by omega) (by omega) (by omega) rfl (by omega) lt (unhide HC)).mono ?_
  rintro e w2 ⟨y, rfl, xm, c1, bt⟩
  have CU := hide c1
  have BW := hide (bt.below (unhide BW2) (by omega) (by simp; omega))
  have ss := bt.size
  have Xy : -100000 ≤ y ∧ y ≤ 100000 := by simp at xm; omega
  clear c1 bt HC CU2 BW2 xm lt
  clear CU
  go_wp2_with fail
  go_ret2
  exact ⟨x, y, rfl, ⟨Xx.1, Xx.2, Xy.1, Xy.2⟩, unhide BW⟩
def OutWP (w : World) (e : Ending) (w' : World) : Prop := ∃ (a : Option Addr) (n c : Nat) (l : List (Int × Int)) (q : Int × Int), e = .returned (.tuple #[.slice a n c, .agg #[.int .i64 q.1, .int .i64 q.2]]) ∧ ArP w' a n c l ∧ (∀ p ∈ l, Near p) ∧ n ≤ 20 ∧ Near q ∧ Below w.heap.size w w'
def OutWy (w : World) (e : Ending) (w' : World) : Prop := ∃ (a : Option Addr) (n c : Nat) (l : List (Int × Int)), e = .returned (.slice a n c) ∧ ArP w' a n c l ∧ (∀ p ∈ l, Near p) ∧ n ≤ 20 ∧ Below w.heap.size w w'
theorem ar_but8 {w w' : World} {C n c : Nat} {a : Option Addr} {l : List (Int × Int)} (h : ArP w a n c l) (hb : But C (C + 1) w w') (hG : ∃ G, a = some ⟨G, 0, none⟩ ∧ C < G) : ArP w' a n c l := by
  refine ⟨?_, h.len, h.cap, h.top⟩
  obtain ⟨G, rfl, hC⟩ := hG
  rcases h.sl with h | ⟨b, off, e, h1, h2⟩
  · exact .inl h
  · simp only [Option.some.injEq, Addr.mk.injEq, and_true] at e
    obtain ⟨rfl, rfl⟩ := e
    exact .inr ⟨G, 0, rfl, Nat.lt_of_lt_of_le h1 hb.size, fun i hi => ⟨hb.cell (h2 i hi).1 (.inr (by omega)), hb.cell (h2 i hi).2 (.inr (by omega))⟩⟩
set_option maxHeartbeats 4000000 in
theorem drawMP (a : Option Addr) (n c : Nat) (w : World) (h : ArY w a n) :
    Calls Try.prog 28 #[.slice a n c] w (OutWP w) := by
  have e0 : (w.alloc (.cells #[.int .i64 0, .int .i64 0] 24)).heap.size = w.heap.size + 1 := by simp
  have CU : Hid (Cur (w.heap.size + 1) 0 ((w.alloc (.cells #[.int .i64 0, .int .i64 0] 24)).alloc (.cells #[.slice a n c, .int .i64 0, .int .u64 0] 67))) := hide (e0 ▸ Cur.new (w := (w.alloc (.cells #[.int .i64 0, .int .i64 0] 24))) (h.later ((Below.refl _ _).alloc (Nat.le_refl _) _)))
  have BW : Hid (Below w.heap.size w ((w.alloc (.cells #[.int .i64 0, .int .i64 0] 24)).alloc (.cells #[.slice a n c, .int .i64 0, .int .u64 0] 67))) := hide (((Below.refl _ _).alloc (Nat.le_refl _) _).alloc (by simp) _)
  have z0 : w.heap.size = w.heap.size := by simp
  have R0 : Hid (BxP ((w.alloc (.cells #[.int .i64 0, .int .i64 0] 24)).alloc (.cells #[.slice a n c, .int .i64 0, .int .u64 0] 67)) (w.heap.size) 0 0) := hide (z0 ▸ (BxP.new.later ((Below.refl _ _).alloc (Nat.le_refl _) _)))
  clear z0
  have s0 : w.heap.size + 1 + 1 ≤ ((w.alloc (.cells #[.int .i64 0, .int .i64 0] 24)).alloc (.cells #[.slice a n c, .int .i64 0, .int .u64 0] 67)).heap.size := by simp
  clear h e0
  go_enter Try.func28, Try.ntmps28
  go_wp2_with fail
  refine (way_v (w.heap.size + 1) 0 _ (unhide CU) (by omega)).mono ?_
  rintro e w1 ⟨a1, m1, c1', l, rfl, ar, nr, hm, at_, c1, bt⟩
  have CU2 := hide c1
  have BW2 := hide (bt.below (unhide BW) (by omega) (by omega))
  have RR0 := hide ((unhide R0).keep bt (.inl (by omega)))
  have ss := bt.size
  have AR := hide ar
  have NR := hide nr
  have AT : Hid (∃ G, a1 = some ⟨G, 0, none⟩ ∧ w.heap.size + 1 < G) := hide (by obtain ⟨G, e, h⟩ := at_; exact ⟨G, e, by omega⟩)
  clear ar nr at_
  clear CU BW R0 bt c1
  have CU := CU2
  have BW := BW2
  have R0 := RR0
  clear CU2 BW2 RR0
  have sw1 := Nat.le_trans s0 ss
  clear ss
  go_wp2_with fail
  refine (pt_v (w.heap.size + 1) 200 _ (unhide CU) (by omega)).mono ?_
  rintro e w2 ⟨p, rfl, np, c1, bt⟩
  have CU2 := hide c1
  have BW2 := hide (bt.below (unhide BW) (by omega) (by omega))
  have RR0 := hide ((unhide R0).keep bt (.inl (by omega)))
  have ss := bt.size
  have NP := hide np
  have AR2 := hide (ar_but8 (unhide AR) bt (unhide AT))
  clear np AR
  clear CU BW R0 bt c1
  have CU := CU2
  have BW := BW2
  have R0 := RR0
  clear CU2 BW2 RR0
  have sw2 := Nat.le_trans sw1 ss
  clear ss
  have r00 := (unhide R0).c0
  have r01 := (unhide R0).c1
  have rf0 := (unhide R0).fz
  have sb := set_below8 (w := w2) (B := w.heap.size) (G := w.heap.size) (u := .int .i64 p.1) (v := .int .i64 p.2) (Nat.le_refl _) (by omega)
  have F0 := hide ((unhide BW).trans sb)
  have AR3 : Hid (ArP ((w2.setCell ⟨w.heap.size, 0, none⟩ (.int .i64 p.1)).setCell ⟨w.heap.size, 1, none⟩ (.int .i64 p.2)) a1 m1 c1' l) := hide (ar_but8 (C := w.heap.size) (unhide AR2) but_rowP8 (by obtain ⟨G, e, h⟩ := unhide AT; exact ⟨G, e, by omega⟩))
  clear R0 CU BW sb AR2
  go_wp2_with fail
  refine bodyPost_ret (v := .tuple #[.slice a1 m1 c1', .agg #[.int .i64 p.1, .int .i64 p.2]]) (by simp [results, Try.results28, go_sem, r00, r01]) rfl ?_
  exact ⟨a1, m1, c1', l, p, rfl, unhide AR3, unhide NR, hm, unhide NP, unhide F0⟩
set_option maxHeartbeats 4000000 in
theorem drawAT (a : Option Addr) (n c : Nat) (w : World) (h : ArY w a n) :
    Calls Try.prog 72 #[.slice a n c] w (OutWy w) := by
  have e0 : w.heap.size = w.heap.size := by simp
  have CU : Hid (Cur (w.heap.size) 0 (w.alloc (.cells #[.slice a n c, .int .i64 0, .int .u64 0] 67))) := hide (e0 ▸ Cur.new (w := w) (h.later (Below.refl _ _)))
  have BW : Hid (Below w.heap.size w (w.alloc (.cells #[.slice a n c, .int .i64 0, .int .u64 0] 67))) := hide ((Below.refl _ _).alloc (Nat.le_refl _) _)
  have s0 : w.heap.size + 1 ≤ (w.alloc (.cells #[.slice a n c, .int .i64 0, .int .u64 0] 67)).heap.size := by simp
  clear h e0
  go_enter Try.func72, Try.ntmps72
  go_wp2_with fail
  refine (way_v (w.heap.size) 0 _ (unhide CU) (by omega)).mono ?_
  rintro e w1 ⟨a1, m1, c1', l, rfl, ar, nr, hm, at_, c1, bt⟩
  have CU2 := hide c1
  have BW2 := hide (bt.below (unhide BW) (by omega) (by omega))
  have ss := bt.size
  have AR := hide ar
  have NR := hide nr
  clear ar nr at_
  clear CU BW bt c1
  have CU := CU2
  have BW := BW2
  clear CU2 BW2
  have sw1 := Nat.le_trans s0 ss
  clear ss
  go_wp2_with fail
  go_ret
  exact ⟨a1, m1, c1', l, rfl, unhide AR, unhide NR, hm, unhide BW⟩
theorem drawIP (a : Option Addr) (n c : Nat) (w : World) (h : ArY w a n) :
    Calls Try.prog 33 #[.slice a n c] w (OutWy w) := by
  have H := hide h
  clear h
  go_enter Try.func33, Try.ntmps33
  go_wp2_with fail
  refine (drawAT a n c _ (unhide H)).mono ?_
  rintro e w1 ⟨a1, m1, c1, l, rfl, ar, nr, hm, hb⟩
  have AR := hide ar
  clear ar
  go_wp2_with fail
  go_ret
  exact ⟨a1, m1, c1, l, rfl, unhide AR, nr, hm, hb⟩
set_option maxHeartbeats 4000000 in
theorem samePts_v (a a' : Option Addr) (n c c' : Nat) (l : List (Int × Int)) (w : World) (h : SlP w a l) (h' : SlP w a' l) (hn : l.length = n) (hm : n ≤ 1048576) :
    Calls Try.prog 31 #[.slice a n c, .slice a' n c'] w fun e w' => e = .returned (.bool true) ∧ Below w.heap.size w w' := by
  have HS := hide h
  have HS' := hide h'
  have HN := hide hn
  have nn : ((n : Int) != (n : Int)) = false := by simp
  clear h hn h'
  go_enter Try.func31, Try.ntmps31
  go_wp2
  go_loopw [13] (fun iv wr => ∃ (i : Nat), i ≤ n ∧ iv = .int .i64 i ∧ Hid (Below w.heap.size w wr)) (fun iv _ => n - (intOf iv).toNat)
  case atStart => exact ⟨0, Nat.zero_le _, rfl, hide (Below.refl _ _)⟩
  case round =>
    obtain ⟨i, hi, rfl, HB⟩ := hrel
    by_cases hlt : i < n
    · have hlt' : (i : Int) < (n : Int) := by omega
      rcases (unhide HS) with e | ⟨b, off, rfl, hb, hc⟩
      · exact absurd (unhide HN) (by rw [e]; simp; omega)
      have e0 := hc i (by rw [unhide HN]; exact hlt)
      rcases (unhide HS') with e | ⟨b', off', rfl, hb', hc'⟩
      · exact absurd (unhide HN) (by rw [e]; simp; omega)
      have f0 := hc' i (by rw [unhide HN]; exact hlt)
      obtain ⟨y, hy⟩ : ∃ y, y = l[i]'(by rw [unhide HN]; exact hlt) := ⟨_, rfl⟩
      rw [← hy] at e0 f0
      clear hy hc hc'
      have E0 : wr.cell? ⟨b, off + i * 2, none⟩ = some (.int .i64 y.1) := ((unhide HB).cell (p := ⟨b, off + i * 2, none⟩) hb).trans (e0.1)
      have E1 : wr.cell? ⟨b, off + i * 2 + 1, none⟩ = some (.int .i64 y.2) := ((unhide HB).cell (p := ⟨b, off + i * 2 + 1, none⟩) hb).trans (e0.2)
      have F0 : wr.cell? ⟨b', off' + i * 2, none⟩ = some (.int .i64 y.1) := ((unhide HB).cell (p := ⟨b', off' + i * 2, none⟩) hb').trans (f0.1)
      have F1 : wr.cell? ⟨b', off' + i * 2 + 1, none⟩ = some (.int .i64 y.2) := ((unhide HB).cell (p := ⟨b', off' + i * 2 + 1, none⟩) hb').trans (f0.2)
      have q1 : (y.1 == y.1) = true := by simp
      have q2 : (y.2 == y.2) = true := by simp
      clear e0 f0
      go_upto_region 6 with fail
      go_region
      clear E0 F0 E1 F1
      go_wp2
      go_roundw
      case rel => exact ⟨i + 1, by omega, by go_num, hide (unhide HB).drew⟩
      case measure => simp [intOf]; omega
    · obtain rfl : i = n := by omega
      go_wp2
      go_ret
      exact ⟨rfl, unhide HB⟩
end Go.Proofs.Ytpchoiaombigjaa

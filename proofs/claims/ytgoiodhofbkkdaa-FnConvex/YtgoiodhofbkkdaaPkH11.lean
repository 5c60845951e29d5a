/- Chapter 9 of the program: stretches, how often one goes round, crossings. No condition beyond those typed. Written by mkim9.py. -/
import Derived.Test.YtgoiodhofbkkdaaPkD11
import Derived.Test.YtgoiodhofbkkdaaSeg8
import Derived.Test.YtgoiodhofbkkdaaSp9
namespace Go.Proofs.Ytgoiodhofbkkdaa
open Go.RowKit
set_option linter.unusedVariables false
set_option maxRecDepth 100000
set_option linter.unusedSimpArgs false

def OutLP (w : World) (e : Ending) (w' : World) : Prop := ∃ p q : Int × Int, e = .returned (.tuple #[.agg #[.int .i64 p.1, .int .i64 p.2], .agg #[.int .i64 q.1, .int .i64 q.2]]) ∧ Below w.heap.size w w'
def OutWz (w : World) (e : Ending) (w' : World) : Prop := ∃ (a : Option Addr) (n c : Nat) (l : List (Int × Int)), e = .returned (.slice a n c) ∧ ArP w' a n c l ∧ n ≤ 40 ∧ Below w.heap.size w w'
def OutWq (w : World) (e : Ending) (w' : World) : Prop := ∃ (a : Option Addr) (n c : Nat) (l : List (Int × Int)) (q : Int × Int), e = .returned (.tuple #[.slice a n c, .agg #[.int .i64 q.1, .int .i64 q.2]]) ∧ ArP w' a n c l ∧ n ≤ 40 ∧ Below w.heap.size w w'
set_option maxHeartbeats 4000000 in
theorem drawLP (a : Option Addr) (n c : Nat) (w : World) (h : ArY w a n) :
    Calls Try.prog 34 #[.slice a n c] w (OutLP w) := by
  have e0 : ((w.alloc (.cells #[.int .i64 0, .int .i64 0] 31)).alloc (.cells #[.int .i64 0, .int .i64 0] 31)).heap.size = w.heap.size + 1 + 1 := by simp
  have CU : Hid (Cur (w.heap.size + 1 + 1) 0 (((w.alloc (.cells #[.int .i64 0, .int .i64 0] 31)).alloc (.cells #[.int .i64 0, .int .i64 0] 31)).alloc (.cells #[.slice a n c, .int .i64 0, .int .u64 0] 59))) := hide (e0 ▸ Cur.new (w := ((w.alloc (.cells #[.int .i64 0, .int .i64 0] 31)).alloc (.cells #[.int .i64 0, .int .i64 0] 31))) (h.later (((Below.refl _ _).alloc (Nat.le_refl _) _).alloc (by simp) _)))
  have BW : Hid (Below w.heap.size w (((w.alloc (.cells #[.int .i64 0, .int .i64 0] 31)).alloc (.cells #[.int .i64 0, .int .i64 0] 31)).alloc (.cells #[.slice a n c, .int .i64 0, .int .u64 0] 59))) := hide ((((Below.refl _ _).alloc (Nat.le_refl _) _).alloc (by simp) _).alloc (by simp; omega) _)
  have R0 : Hid (BxP (((w.alloc (.cells #[.int .i64 0, .int .i64 0] 31)).alloc (.cells #[.int .i64 0, .int .i64 0] 31)).alloc (.cells #[.slice a n c, .int .i64 0, .int .u64 0] 59)) (w.heap.size) 0 0) := hide ((BxP.new.later ((Below.refl _ _).alloc (Nat.le_refl _) _)).later ((Below.refl _ _).alloc (Nat.le_refl _) _))
  have z1 : (w.alloc (.cells #[.int .i64 0, .int .i64 0] 31)).heap.size = w.heap.size + 1 := by simp
  have R1 : Hid (BxP (((w.alloc (.cells #[.int .i64 0, .int .i64 0] 31)).alloc (.cells #[.int .i64 0, .int .i64 0] 31)).alloc (.cells #[.slice a n c, .int .i64 0, .int .u64 0] 59)) (w.heap.size + 1) 0 0) := hide (z1 ▸ (BxP.new.later ((Below.refl _ _).alloc (Nat.le_refl _) _)))
  have s0 : w.heap.size + 1 + 1 + 1 ≤ (((w.alloc (.cells #[.int .i64 0, .int .i64 0] 31)).alloc (.cells #[.int .i64 0, .int .i64 0] 31)).alloc (.cells #[.slice a n c, .int .i64 0, .int .u64 0] 59)).heap.size := by simp
  clear h e0 z1
  go_enter Try.func34, Try.ntmps34
  go_wp2_with fail
  refine (pt_v (w.heap.size + 1 + 1) 0 _ (unhide CU) (by omega)).mono ?_
  rintro e w1 ⟨p, rfl, np, c1, bt⟩
  replace CU := hide c1
  replace BW := hide (bt.below (unhide BW) (by omega) (by omega))
  replace R0 := hide ((unhide R0).keep bt (.inl (by omega)))
  replace R1 := hide ((unhide R1).keep bt (.inl (by omega)))
  have s1 := bt.size
  clear c1 bt np
  go_wp2_with fail
  refine (pt_v (w.heap.size + 1 + 1) (0 + 6) _ (unhide CU) (by omega)).mono ?_
  rintro e w2 ⟨q, rfl, nq, c1, bt⟩
  replace BW := hide (bt.below (unhide BW) (by omega) (by omega))
  replace R0 := hide ((unhide R0).keep bt (.inl (by omega)))
  replace R1 := hide ((unhide R1).keep bt (.inl (by omega)))
  have s2 := bt.size
  clear c1 bt nq CU
  have r00 := (unhide R0).c0
  have r01 := (unhide R0).c1
  have rf0 := (unhide R0).fz
  have r10 := (unhide R1).c0
  have r11 := (unhide R1).c1
  have rf1 := (unhide R1).fz
  have sb := set_below8 (w := w2) (B := w.heap.size) (G := w.heap.size) (u := .int .i64 p.1) (v := .int .i64 p.2) (Nat.le_refl _) (by omega)
  have sc := set_below8 (w := (w2.setCell ⟨w.heap.size, 0, none⟩ (.int .i64 p.1)).setCell ⟨w.heap.size, 1, none⟩ (.int .i64 p.2)) (B := w.heap.size) (G := w.heap.size + 1) (u := .int .i64 q.1) (v := .int .i64 q.2) (by omega) (by have := sb.size; omega)
  have F0 := hide (((unhide BW).trans sb).trans sc)
  clear sb sc R0 R1 BW
  go_wp2_with fail
  refine bodyPost_ret (v := .tuple #[.agg #[.int .i64 p.1, .int .i64 p.2], .agg #[.int .i64 q.1, .int .i64 q.2]]) (by simp [results, Try.results34, go_sem, r00, r01, r10, r11]) rfl ?_
  exact ⟨p, q, rfl, unhide F0⟩
set_option maxHeartbeats 8000000 in
theorem drawHP (a : Option Addr) (n c : Nat) (w : World) (h : ArY w a n) :
    Calls Try.prog 25 #[.slice a n c] w (OutWq w) := by
  have e0 : (w.alloc (.cells #[.int .i64 0, .int .i64 0] 31)).heap.size = w.heap.size + 1 := by simp
  have CU : Hid (Cur (w.heap.size + 1) 0 ((w.alloc (.cells #[.int .i64 0, .int .i64 0] 31)).alloc (.cells #[.slice a n c, .int .i64 0, .int .u64 0] 59))) := hide (e0 ▸ Cur.new (w := (w.alloc (.cells #[.int .i64 0, .int .i64 0] 31))) (h.later ((Below.refl _ _).alloc (Nat.le_refl _) _)))
  have BW : Hid (Below w.heap.size w ((w.alloc (.cells #[.int .i64 0, .int .i64 0] 31)).alloc (.cells #[.slice a n c, .int .i64 0, .int .u64 0] 59))) := hide (((Below.refl _ _).alloc (Nat.le_refl _) _).alloc (by simp) _)
  have R0 : Hid (BxP ((w.alloc (.cells #[.int .i64 0, .int .i64 0] 31)).alloc (.cells #[.slice a n c, .int .i64 0, .int .u64 0] 59)) (w.heap.size) 0 0) := hide (BxP.new.later ((Below.refl _ _).alloc (Nat.le_refl _) _))
  have s0 : w.heap.size + 1 + 1 ≤ ((w.alloc (.cells #[.int .i64 0, .int .i64 0] 31)).alloc (.cells #[.slice a n c, .int .i64 0, .int .u64 0] 59)).heap.size := by simp
  clear h e0
  go_enter Try.func25, Try.ntmps25
  go_wp2_with fail
  refine (cloud_v (w.heap.size + 1) 0 _ (unhide CU) (by omega)).mono ?_
  rintro e w1 ⟨v, l, rfl, rw1, nr, hm, c1, bt⟩
  obtain ⟨a1, c1', rfl, ar⟩ := rw1.ar
  have BW1 := hide (bt.below (unhide BW) (by omega) (by omega))
  replace R0 := hide ((unhide R0).keep bt (.inl (by omega)))
  replace CU := hide c1
  have s1 := bt.size
  have HL := huv_len l
  have AR := hide ar
  clear ar nr rw1 bt c1 BW
  go_wp2_with fail
  refine (HullOfR a1 _ c1' l _ (unhide AR) (by omega)).mono ?_
  rintro e w2 ⟨v2, rfl, hb, rw2⟩
  replace CU := hide ((unhide CU).later hb)
  replace R0 := hide ((unhide R0).later hb)
  have BW2 := hide (below_on (unhide BW1) hb)
  have s2 := hb.size
  obtain ⟨a2, c2', rfl, ar2⟩ := rw2.ar
  have R2 := hide rw2
  clear rw2 hb BW1 AR ar2
  generalize huV l = H at *
  cases hok : cloB l
  · clear hok
    go_wp2_with fail
    refine (way_v (w.heap.size + 1) 200 _ (unhide CU) (by omega)).mono ?_
    rintro e w3 ⟨a3, m3, c3, l3, rfl, ar, nr, hm3, at_, c1, bt⟩
    replace CU := hide c1
    have BW3 := hide (bt.below (unhide BW2) (by omega) (by omega))
    replace R0 := hide ((unhide R0).keep bt (.inl (by omega)))
    have AT : Hid (∃ G, a3 = some ⟨G, 0, none⟩ ∧ w.heap.size + 1 < G) := hide (by obtain ⟨G, e, h⟩ := at_; exact ⟨G, e, by omega⟩)
    have AR := hide ar
    have s3 := bt.size
    clear c1 bt nr ar at_ BW2
    go_wp2_with fail
    refine (pt_v (w.heap.size + 1) (200 + 200) _ (unhide CU) (by omega)).mono ?_
    rintro e w4 ⟨p, rfl, np, c1, bt⟩
    have BW4 := hide (bt.below (unhide BW3) (by omega) (by omega))
    replace R0 := hide ((unhide R0).keep bt (.inl (by omega)))
    have AR2 := hide (ar_but8 (unhide AR) bt (unhide AT))
    have s4 := bt.size
    clear c1 bt np CU BW3 AR
    have r00 := (unhide R0).c0
    have r01 := (unhide R0).c1
    have rf0 := (unhide R0).fz
    have sb := set_below8 (w := w4) (B := w.heap.size) (G := w.heap.size) (u := .int .i64 p.1) (v := .int .i64 p.2) (Nat.le_refl _) (by omega)
    have F0 := hide ((unhide BW4).trans sb)
    have AR3 : Hid (ArP ((w4.setCell ⟨w.heap.size, 0, none⟩ (.int .i64 p.1)).setCell ⟨w.heap.size, 1, none⟩ (.int .i64 p.2)) a3 m3 c3 l3) := hide (ar_but8 (C := w.heap.size) (unhide AR2) but_rowP8 (by obtain ⟨G, e, h⟩ := unhide AT; exact ⟨G, e, by omega⟩))
    clear R0 BW4 sb AR2
    go_wp2_with fail
    refine bodyPost_ret (v := .tuple #[.slice a3 m3 c3, .agg #[.int .i64 p.1, .int .i64 p.2]]) (by simp [results, Try.results25, go_sem, r00, r01]) rfl ?_
    exact ⟨a3, m3, c3, l3, p, rfl, unhide AR3, by omega, unhide F0⟩
  · clear hok
    by_cases h2 : 2 < H.length
    · have h2' : (2 : Int) < (H.length : Int) := by omega
      by_cases h12 : H.length ≤ 12
      · have h12' : ¬ (12 : Int) < (H.length : Int) := by omega
        have h12'' : (H.length : Int) ≤ 12 := by omega
        go_wp2_with fail
        refine (pt_v (w.heap.size + 1) 200 _ (unhide CU) (by omega)).mono ?_
        rintro e w4 ⟨p, rfl, np, c1, bt⟩
        have BW4 := hide (bt.below (unhide BW2) (by omega) (by omega))
        replace R0 := hide ((unhide R0).keep bt (.inl (by omega)))
        replace R2 := hide ((unhide R2).but bt (by omega))
        have s4 := bt.size
        clear c1 bt np CU BW2
        have r00 := (unhide R0).c0
        have r01 := (unhide R0).c1
        have rf0 := (unhide R0).fz
        have sb := set_below8 (w := w4) (B := w.heap.size) (G := w.heap.size) (u := .int .i64 p.1) (v := .int .i64 p.2) (Nat.le_refl _) (by omega)
        have F0 := hide ((unhide BW4).trans sb)
        have RA := hide (((unhide R2).grown (grown_setc (w := w4) (g := w.heap.size) (k := 0) (x := .int .i64 p.1)) (fun k e => by cases e; omega)).grown (grown_setc (g := w.heap.size) (k := 1) (x := .int .i64 p.2)) (fun k e => by cases e; omega)).ar
        clear R0 BW4 sb R2
        go_wp2_with fail
        refine bodyPost_ret (v := .tuple #[.slice a2 H.length c2', .agg #[.int .i64 p.1, .int .i64 p.2]]) (by simp [results, Try.results25, go_sem, r00, r01]) rfl ?_
        obtain ⟨a5, c5, e5, ar5⟩ := unhide RA
        cases e5
        exact ⟨_, _, _, H, p, rfl, ar5, by omega, unhide F0⟩
      · have h12' : (12 : Int) < (H.length : Int) := by omega
        have h12'' : ¬ (H.length : Int) ≤ 12 := by omega
        go_wp2_with fail
        refine (way_v (w.heap.size + 1) 200 _ (unhide CU) (by omega)).mono ?_
        rintro e w3 ⟨a3, m3, c3, l3, rfl, ar, nr, hm3, at_, c1, bt⟩
        replace CU := hide c1
        have BW3 := hide (bt.below (unhide BW2) (by omega) (by omega))
        replace R0 := hide ((unhide R0).keep bt (.inl (by omega)))
        have AT : Hid (∃ G, a3 = some ⟨G, 0, none⟩ ∧ w.heap.size + 1 < G) := hide (by obtain ⟨G, e, h⟩ := at_; exact ⟨G, e, by omega⟩)
        have AR := hide ar
        have s3 := bt.size
        clear c1 bt nr ar at_ BW2
        go_wp2_with fail
        refine (pt_v (w.heap.size + 1) (200 + 200) _ (unhide CU) (by omega)).mono ?_
        rintro e w4 ⟨p, rfl, np, c1, bt⟩
        have BW4 := hide (bt.below (unhide BW3) (by omega) (by omega))
        replace R0 := hide ((unhide R0).keep bt (.inl (by omega)))
        have AR2 := hide (ar_but8 (unhide AR) bt (unhide AT))
        have s4 := bt.size
        clear c1 bt np CU BW3 AR
        have r00 := (unhide R0).c0
        have r01 := (unhide R0).c1
        have rf0 := (unhide R0).fz
        have sb := set_below8 (w := w4) (B := w.heap.size) (G := w.heap.size) (u := .int .i64 p.1) (v := .int .i64 p.2) (Nat.le_refl _) (by omega)
        have F0 := hide ((unhide BW4).trans sb)
        have AR3 : Hid (ArP ((w4.setCell ⟨w.heap.size, 0, none⟩ (.int .i64 p.1)).setCell ⟨w.heap.size, 1, none⟩ (.int .i64 p.2)) a3 m3 c3 l3) := hide (ar_but8 (C := w.heap.size) (unhide AR2) but_rowP8 (by obtain ⟨G, e, h⟩ := unhide AT; exact ⟨G, e, by omega⟩))
        clear R0 BW4 sb AR2
        go_wp2_with fail
        refine bodyPost_ret (v := .tuple #[.slice a3 m3 c3, .agg #[.int .i64 p.1, .int .i64 p.2]]) (by simp [results, Try.results25, go_sem, r00, r01]) rfl ?_
        exact ⟨a3, m3, c3, l3, p, rfl, unhide AR3, by omega, unhide F0⟩
    · have h2' : ¬ (2 : Int) < (H.length : Int) := by omega
      go_wp2_with fail
      refine (way_v (w.heap.size + 1) 200 _ (unhide CU) (by omega)).mono ?_
      rintro e w3 ⟨a3, m3, c3, l3, rfl, ar, nr, hm3, at_, c1, bt⟩
      replace CU := hide c1
      have BW3 := hide (bt.below (unhide BW2) (by omega) (by omega))
      replace R0 := hide ((unhide R0).keep bt (.inl (by omega)))
      have AT : Hid (∃ G, a3 = some ⟨G, 0, none⟩ ∧ w.heap.size + 1 < G) := hide (by obtain ⟨G, e, h⟩ := at_; exact ⟨G, e, by omega⟩)
      have AR := hide ar
      have s3 := bt.size
      clear c1 bt nr ar at_ BW2
      go_wp2_with fail
      refine (pt_v (w.heap.size + 1) (200 + 200) _ (unhide CU) (by omega)).mono ?_
      rintro e w4 ⟨p, rfl, np, c1, bt⟩
      have BW4 := hide (bt.below (unhide BW3) (by omega) (by omega))
      replace R0 := hide ((unhide R0).keep bt (.inl (by omega)))
      have AR2 := hide (ar_but8 (unhide AR) bt (unhide AT))
      have s4 := bt.size
      clear c1 bt np CU BW3 AR
      have r00 := (unhide R0).c0
      have r01 := (unhide R0).c1
      have rf0 := (unhide R0).fz
      have sb := set_below8 (w := w4) (B := w.heap.size) (G := w.heap.size) (u := .int .i64 p.1) (v := .int .i64 p.2) (Nat.le_refl _) (by omega)
      have F0 := hide ((unhide BW4).trans sb)
      have AR3 : Hid (ArP ((w4.setCell ⟨w.heap.size, 0, none⟩ (.int .i64 p.1)).setCell ⟨w.heap.size, 1, none⟩ (.int .i64 p.2)) a3 m3 c3 l3) := hide (ar_but8 (C := w.heap.size) (unhide AR2) but_rowP8 (by obtain ⟨G, e, h⟩ := unhide AT; exact ⟨G, e, by omega⟩))
      clear R0 BW4 sb AR2
      go_wp2_with fail
      refine bodyPost_ret (v := .tuple #[.slice a3 m3 c3, .agg #[.int .i64 p.1, .int .i64 p.2]]) (by simp [results, Try.results25, go_sem, r00, r01]) rfl ?_
      exact ⟨a3, m3, c3, l3, p, rfl, unhide AR3, by omega, unhide F0⟩
set_option maxHeartbeats 8000000 in
theorem drawIC (a : Option Addr) (n c : Nat) (w : World) (h : ArY w a n) :
    Calls Try.prog 32 #[.slice a n c] w (OutWz w) := by
  obtain ⟨i0, hi, hz0, hz1, hz2⟩ := info_parts infoPt
  have CU : Hid (Cur (w.heap.size) 0 (w.alloc (.cells #[.slice a n c, .int .i64 0, .int .u64 0] 59))) := hide (Cur.new (w := w) h)
  have BW : Hid (Below w.heap.size w (w.alloc (.cells #[.slice a n c, .int .i64 0, .int .u64 0] 59))) := hide ((Below.refl _ _).alloc (Nat.le_refl _) _)
  have s0 : w.heap.size + 1 ≤ (w.alloc (.cells #[.slice a n c, .int .i64 0, .int .u64 0] 59)).heap.size := by simp
  clear h
  go_enter Try.func32, Try.ntmps32
  go_wp2_with fail
  refine (cloud_v (w.heap.size) 0 _ (unhide CU) (by omega)).mono ?_
  rintro e w1 ⟨v, l, rfl, rw1, nr, hm, c1, bt⟩
  obtain ⟨a1, c1', rfl, ar⟩ := rw1.ar
  have BW1 := hide (bt.below (unhide BW) (by omega) (by omega))
  replace CU := hide c1
  have s1 := bt.size
  have HL := huv_len l
  have AR := hide ar
  clear ar nr rw1 bt c1 BW
  go_wp2_with fail
  refine (HullOfR a1 _ c1' l _ (unhide AR) (by omega)).mono ?_
  rintro e w2 ⟨v2, rfl, hb, rw2⟩
  replace CU := hide ((unhide CU).later hb)
  have BW2 := hide (below_on (unhide BW1) hb)
  have s2 := hb.size
  obtain ⟨a2, c2', rfl, ar2⟩ := rw2.ar
  have R2 := hide rw2
  clear rw2 hb BW1 AR ar2
  generalize huV l = H at *
  cases hok : cloB l
  · clear hok
    go_wp2_with fail
    refine (way_v (w.heap.size) 200 _ (unhide CU) (by omega)).mono ?_
    rintro e w9 ⟨a3, m3, c3, l3, rfl, ar, nr, hm3, at_, c1, bt⟩
    have BW9 := hide (bt.below (unhide BW2) (by omega) (by omega))
    have AR9 := hide ar
    clear c1 bt nr ar at_ BW2 CU
    go_wp2_with fail
    go_ret
    exact ⟨a3, m3, c3, l3, rfl, unhide AR9, by omega, unhide BW9⟩
  · clear hok
    by_cases h2 : 2 < H.length
    · have h2' : (2 : Int) < (H.length : Int) := by omega
      go_wp2_with fail
      refine (one_v (w.heap.size) 200 2 _ (unhide CU) (by omega) (by omega)).mono ?_
      rintro e w3 ⟨b, rfl, c1, bt⟩
      replace CU := hide c1
      replace R2 := hide ((unhide R2).but bt (by omega))
      replace BW2 := hide (bt.below (unhide BW2) (by omega) (by omega))
      have s3 := bt.size
      clear c1 bt
      cases b
      · skip
        go_wp2_with fail
        refine (way_v (w.heap.size) (200 + 2) _ (unhide CU) (by omega)).mono ?_
        rintro e w9 ⟨a3, m3, c3, l3, rfl, ar, nr, hm3, at_, c1, bt⟩
        have BW9 := hide (bt.below (unhide BW2) (by omega) (by omega))
        have AR9 := hide ar
        clear c1 bt nr ar at_ BW2 CU
        go_wp2_with fail
        go_ret
        exact ⟨a3, m3, c3, l3, rfl, unhide AR9, by omega, unhide BW9⟩
      · go_wp2_with fail
        refine (pick_v (w.heap.size) (200 + 2) (H.length : Int) _ (unhide CU) (by omega) (by omega)).mono ?_
        rintro e w4 ⟨x, rfl, x0, x1, x2, c1, bt⟩
        replace x1 := x1 (by omega)
        replace R2 := hide ((unhide R2).but bt (by omega))
        have BW5 := hide (bt.below (unhide BW2) (by omega) (by omega))
        clear c1 bt BW2 x2 CU
        obtain ⟨k, rfl⟩ : ∃ k : Nat, x = (k : Int) := ⟨x.toNat, by omega⟩
        rcases (unhide R2).open with ⟨_, h⟩ | ⟨g, cg, eg, gB, gw, gc, gm, hcc⟩
        · rw [h] at h2; simp at h2
        clear hcc
        cases eg
        have al : Below w4.heap.size w4 ((w4.alloc (.cells #[] 31)).drew) := ((Below.refl _ _).alloc (Nat.le_refl _) _).drew
        have kl : k ≤ H.length := by omega
        have ND : Hid (∀ j u, (flatP (H.drop k))[j]? = some u → ((w4.alloc (.cells #[] 31)).drew).cell? ((⟨g, k * 2, none⟩ : Addr).add j) = some u) := hide (by
          have := ((unhide R2).later al).news k (H.length - k) (by omega)
          rw [List.take_of_length_le (by rw [List.length_drop]; exact Nat.le_refl _)] at this
          exact this)
        have NT0 := hide (fun (w' : World) (hb : Below w4.heap.size w4 w') => ((unhide R2).later hb).news 0 k (by omega))
        have X1 : Hid (RwP w4.heap.size ((w4.alloc (.cells #[] 31)).drew) (.slice (some ⟨w4.heap.size, 0, none⟩) 0 0) []) := hide ((empty_rw w4).later (Below.refl _ _).drew)
        have FD : Hid ((flatP (H.drop k)).length = (H.length - k) * 2 ∧ (flatP (H.take k)).length = k * 2 ∧ (H.drop k).length = H.length - k ∧ (H.take k).length = k) := hide (by
          have e1 : (H.drop k).length = H.length - k := by rw [List.length_drop]
          have e2 : (H.take k).length = k := by rw [List.length_take]; omega
          exact ⟨by rw [flat_len, e1], by rw [flat_len, e2], e1, e2⟩)
        have ALH := hide al
        have SZ4 := al.size
        have HLn : H.length ≤ 34 := by omega
        generalize hN : H.length = N at *
        have HNN := hide hN
        clear hN
        have kc : (k : Int) ≤ (N : Int) := by omega
        have kc1 : ¬ ((c2' : Int) = (k : Int)) := by omega
        have kc2 : ¬ (c2' = k) := by omega
        have kc3 : (k : Int) ≤ (c2' : Int) := by omega
        clear al HL
        have HX0 : Hid True := hide trivial
        go_upto_region 5 with fail
        go_region_law (first
          | (have chk := HX0; refine step_append_at rfl (.tmp 30) (.tmp 33) 23 rfl w4.heap.size 31 i0 (.agg #[.int .i64 0, .int .i64 0]) 2 16 Try.underlying23 hi hz0 hz1 hz2 rfl (by decide) (.slice (some ⟨w4.heap.size, 0, none⟩) 0 0) 0 (flatP []) (by simp [Act.eval, Act.put]) (unhide X1).row ⟨g, k * 2, none⟩ (N - k) (c2' - k) (flatP (H.drop k)) (by simp [Act.eval, Act.put]) (unhide FD).1 (unhide ND) (flat_one' _) (by unfold maxLen; omega) (by omega) SZ4 (fun v5 w5 own5 gr5 => ?_); have r5 : RwP w4.heap.size w5 v5 (H.drop k) := ⟨by rw [(unhide FD).2.2.1]; simpa [flatP] using own5⟩; have HB5 := hide (grow_below (unhide ALH) SZ4 (unhide X1).blk gr5); have SZ5 := (unhide HB5).size; have NT : Hid (∀ j u, (flatP (H.take k))[j]? = some u → w5.cell? ((⟨g, 0, none⟩ : Addr).add j) = some u) := hide (by have := unhide NT0 w5 (unhide HB5); simpa using this); obtain ⟨a5, d5, rfl, _⟩ := r5.sl; have R5 := hide r5; rw [(unhide FD).2.2.1] at R5 ⊢; clear own5 gr5 r5 chk HX0)
          | (refine step_append_at rfl (.tmp 34) (.tmp 37) 23 rfl w4.heap.size 31 i0 (.agg #[.int .i64 0, .int .i64 0]) 2 16 Try.underlying23 hi hz0 hz1 hz2 rfl (by decide) (.slice a5 (N - k) d5) (H.drop k).length (flatP (H.drop k)) (by simp [Act.eval, Act.put]) (unhide R5).row ⟨g, 0, none⟩ k c2' (flatP (H.take k)) (by simp [Act.eval, Act.put]) (unhide FD).2.1 (unhide NT) (flat_one' _) (by rw [(unhide FD).2.2.1]; unfold maxLen; omega) (by rw [(unhide FD).2.2.1]; omega) SZ5 (fun v6 w6 own6 gr6 => ?_); have R6 := hide (RwP.join own6 (unhide FD).2.2.2); have HB6 := hide (grow_below (unhide HB5) SZ5 (unhide R5).blk gr6); clear own6 gr6))
        obtain ⟨a7, c7, e7, ar7⟩ := (unhide R6).ar
        subst e7
        have A7 := hide ar7
        clear ar7
        go_wp2
        go_ret
        exact ⟨_, _, _, _, rfl, unhide A7, by have := (unhide FD).2.2; rw [List.length_append, this.1, this.2]; omega, below_on (unhide BW5) (unhide HB6)⟩
    · have h2' : ¬ (2 : Int) < (H.length : Int) := by omega
      go_wp2_with fail
      refine (way_v (w.heap.size) 200 _ (unhide CU) (by omega)).mono ?_
      rintro e w9 ⟨a3, m3, c3, l3, rfl, ar, nr, hm3, at_, c1, bt⟩
      have BW9 := hide (bt.below (unhide BW2) (by omega) (by omega))
      have AR9 := hide ar
      clear c1 bt nr ar at_ BW2 CU
      go_wp2_with fail
      go_ret
      exact ⟨a3, m3, c3, l3, rfl, unhide AR9, by omega, unhide BW9⟩
end Go.Proofs.Ytgoiodhofbkkdaa
namespace Go.Proofs.Ytgoiodhofbkkdaa
open Go.RowKit
set_option linter.unusedVariables false
set_option maxRecDepth 100000
set_option linter.unusedSimpArgs false

def stT (x y : Int × Int) : TypeId := if x.2 < y.2 then 110 else if y.2 < x.2 then 111 else 112
/-- A stretch as it lies in a cell. -/
def stV (x y : Int × Int) : Value := .iface (stT x y) (.agg #[.int .i64 x.1, .int .i64 x.2, .int .i64 y.1, .int .i64 y.2])
set_option maxHeartbeats 1000000 in
theorem stretchI (x y : Int × Int) (w : World) :
    Calls Try.prog 92 #[.agg #[.int .i64 x.1, .int .i64 x.2, .int .i64 y.1, .int .i64 y.2]] w fun e w' => e = .returned (stV x y) ∧ Below w.heap.size w w' := by
  have B0 := hide (show Below w.heap.size w (w.alloc (.cells #[.int .i64 x.1, .int .i64 x.2, .int .i64 y.1, .int .i64 y.2] 95)) from (Below.refl _ _).alloc (by simp) _)
  have HU := hide (show stV x y = .iface (stT x y) (.agg #[.int .i64 x.1, .int .i64 x.2, .int .i64 y.1, .int .i64 y.2]) from rfl)
  generalize stV x y = v at *
  by_cases h1 : x.2 < y.2
  · have E : Hid (stT x y = 110) := hide (by unfold stT; rw [if_pos h1])
    go_enter Try.func92, Try.ntmps92
    go_wp2
    go_ret
    exact ⟨by rw [unhide HU, unhide E]; rfl, unhide B0⟩
  · by_cases h2 : y.2 < x.2
    · have E : Hid (stT x y = 111) := hide (by unfold stT; rw [if_neg h1, if_pos h2])
      go_enter Try.func92, Try.ntmps92
      go_wp2
      go_ret
      exact ⟨by rw [unhide HU, unhide E]; rfl, unhide B0⟩
    · have E : Hid (stT x y = 112) := hide (by unfold stT; rw [if_neg h1, if_neg h2])
      go_enter Try.func92, Try.ntmps92
      go_wp2
      go_ret
      exact ⟨by rw [unhide HU, unhide E]; rfl, unhide B0⟩
theorem sg3 (k : Int) : sgZ k = -1 ∨ sgZ k = 0 ∨ sgZ k = 1 := by unfold sgZ; split <;> (try split) <;> simp
set_option maxHeartbeats 4000000 in
theorem passI (x y p : Int × Int) (w : World) (hx : Near x) (hy : Near y) (hp : Near p) :
    Calls Try.prog 93 #[stV x y, .agg #[.int .i64 p.1, .int .i64 p.2]] w fun e w' => e = .returned (.int .i64 (wiT x y p)) ∧ Below w.heap.size w w' := by
  have CT := hide (fun w => turnI x y p w hx hy hp)
  clear hx hy hp
  have ta1 : ∀ (v : Value) (w : World), (Instr.typeAssert (.iface 110 v) 98 110 true).run Try.prog w = .ok (.tuple #[v, .bool true]) w := fun v w => by kernel_rfl
  have ta2 : ∀ (v : Value) (w : World), (Instr.typeAssert (.iface 111 v) 98 110 true).run Try.prog w = .ok (.tuple #[.agg #[.int .i64 0, .int .i64 0, .int .i64 0, .int .i64 0], .bool false]) w := fun v w => by kernel_rfl
  have ta3 : ∀ (v : Value) (w : World), (Instr.typeAssert (.iface 112 v) 98 110 true).run Try.prog w = .ok (.tuple #[.agg #[.int .i64 0, .int .i64 0, .int .i64 0, .int .i64 0], .bool false]) w := fun v w => by kernel_rfl
  have ta4 : ∀ (v : Value) (w : World), (Instr.typeAssert (.iface 111 v) 98 111 true).run Try.prog w = .ok (.tuple #[v, .bool true]) w := fun v w => by kernel_rfl
  have ta5 : ∀ (v : Value) (w : World), (Instr.typeAssert (.iface 112 v) 98 111 true).run Try.prog w = .ok (.tuple #[.agg #[.int .i64 0, .int .i64 0, .int .i64 0, .int .i64 0], .bool false]) w := fun v w => by kernel_rfl
  have ta6 : ∀ (v : Value) (w : World), (Instr.typeAssert (.iface 112 v) 98 112 true).run Try.prog w = .ok (.tuple #[v, .bool true]) w := fun v w => by kernel_rfl
  by_cases h1 : x.2 < y.2
  · have E : Hid (stV x y = .iface 110 (.agg #[.int .i64 x.1, .int .i64 x.2, .int .i64 y.1, .int .i64 y.2])) := hide (by unfold stV stT; rw [if_pos h1])
    rw [unhide E]
    clear E
    have B0 := hide (show Below w.heap.size w ((w.alloc (.cells #[.int .i64 p.1, .int .i64 p.2] 31)).alloc (.cells #[.int .i64 x.1, .int .i64 x.2, .int .i64 y.1, .int .i64 y.2] 110)) from ((Below.refl _ _).alloc (by simp) _).alloc (by simp) _)
    by_cases b1 : x.2 ≤ p.2
    · by_cases b2 : p.2 < y.2
      · rcases sg3 (crs x y p) with e | e | e
        · have EV : Hid (wiT x y p = 0) := hide (by unfold wiT upB dnB; rw [e]; simp; try omega)
          rw [e] at CT
          clear e
          go_enter Try.func93, Try.ntmps93
          go_wp2_with fail
          refine (unhide CT _).mono ?_
          rintro e w1 ⟨rfl, hb⟩
          have HB := hide (below_on (unhide B0) hb)
          clear hb
          go_wp2
          go_ret
          exact ⟨by rw [unhide EV]; rfl, unhide HB⟩
        · have EV : Hid (wiT x y p = 0) := hide (by unfold wiT upB dnB; rw [e]; simp; try omega)
          rw [e] at CT
          clear e
          go_enter Try.func93, Try.ntmps93
          go_wp2_with fail
          refine (unhide CT _).mono ?_
          rintro e w1 ⟨rfl, hb⟩
          have HB := hide (below_on (unhide B0) hb)
          clear hb
          go_wp2
          go_ret
          exact ⟨by rw [unhide EV]; rfl, unhide HB⟩
        · have EV : Hid (wiT x y p = 1) := hide (by unfold wiT upB dnB; rw [e]; simp; try omega)
          rw [e] at CT
          clear e
          go_enter Try.func93, Try.ntmps93
          go_wp2_with fail
          refine (unhide CT _).mono ?_
          rintro e w1 ⟨rfl, hb⟩
          have HB := hide (below_on (unhide B0) hb)
          clear hb
          go_wp2
          go_ret
          exact ⟨by rw [unhide EV]; rfl, unhide HB⟩
      · have EV : Hid (wiT x y p = 0) := hide (by unfold wiT upB dnB; simp; omega)
        go_enter Try.func93, Try.ntmps93
        go_wp2
        go_ret
        exact ⟨by rw [unhide EV]; rfl, unhide B0⟩
    · have EV : Hid (wiT x y p = 0) := hide (by unfold wiT upB dnB; simp; omega)
      go_enter Try.func93, Try.ntmps93
      go_wp2
      go_ret
      exact ⟨by rw [unhide EV]; rfl, unhide B0⟩
  · by_cases h2 : y.2 < x.2
    · have E : Hid (stV x y = .iface 111 (.agg #[.int .i64 x.1, .int .i64 x.2, .int .i64 y.1, .int .i64 y.2])) := hide (by unfold stV stT; rw [if_neg h1, if_pos h2])
      rw [unhide E]
      clear E
      have B0 := hide (show Below w.heap.size w ((w.alloc (.cells #[.int .i64 p.1, .int .i64 p.2] 31)).alloc (.cells #[.int .i64 x.1, .int .i64 x.2, .int .i64 y.1, .int .i64 y.2] 111)) from ((Below.refl _ _).alloc (by simp) _).alloc (by simp) _)
      by_cases b1 : y.2 ≤ p.2
      · by_cases b2 : p.2 < x.2
        · rcases sg3 (crs x y p) with e | e | e
          · have EV : Hid (wiT x y p = -1) := hide (by unfold wiT upB dnB; rw [e]; simp; try omega)
            rw [e] at CT
            clear e
            go_enter Try.func93, Try.ntmps93
            go_wp2_with fail
            refine (unhide CT _).mono ?_
            rintro e w1 ⟨rfl, hb⟩
            have HB := hide (below_on (unhide B0) hb)
            clear hb
            go_wp2
            go_ret
            exact ⟨by rw [unhide EV]; rfl, unhide HB⟩
          · have EV : Hid (wiT x y p = 0) := hide (by unfold wiT upB dnB; rw [e]; simp; try omega)
            rw [e] at CT
            clear e
            go_enter Try.func93, Try.ntmps93
            go_wp2_with fail
            refine (unhide CT _).mono ?_
            rintro e w1 ⟨rfl, hb⟩
            have HB := hide (below_on (unhide B0) hb)
            clear hb
            go_wp2
            go_ret
            exact ⟨by rw [unhide EV]; rfl, unhide HB⟩
          · have EV : Hid (wiT x y p = 0) := hide (by unfold wiT upB dnB; rw [e]; simp; try omega)
            rw [e] at CT
            clear e
            go_enter Try.func93, Try.ntmps93
            go_wp2_with fail
            refine (unhide CT _).mono ?_
            rintro e w1 ⟨rfl, hb⟩
            have HB := hide (below_on (unhide B0) hb)
            clear hb
            go_wp2
            go_ret
            exact ⟨by rw [unhide EV]; rfl, unhide HB⟩
        · have EV : Hid (wiT x y p = 0) := hide (by unfold wiT upB dnB; simp; omega)
          go_enter Try.func93, Try.ntmps93
          go_wp2
          go_ret
          exact ⟨by rw [unhide EV]; rfl, unhide B0⟩
      · have EV : Hid (wiT x y p = 0) := hide (by unfold wiT upB dnB; simp; omega)
        go_enter Try.func93, Try.ntmps93
        go_wp2
        go_ret
        exact ⟨by rw [unhide EV]; rfl, unhide B0⟩
    · have E : Hid (stV x y = .iface 112 (.agg #[.int .i64 x.1, .int .i64 x.2, .int .i64 y.1, .int .i64 y.2])) := hide (by unfold stV stT; rw [if_neg h1, if_neg h2])
      rw [unhide E]
      have EV : Hid (wiT x y p = 0) := hide (by unfold wiT upB dnB; simp; omega)
      have B0 := hide (show Below w.heap.size w ((w.alloc (.cells #[.int .i64 p.1, .int .i64 p.2] 31)).alloc (.cells #[.int .i64 x.1, .int .i64 x.2, .int .i64 y.1, .int .i64 y.2] 112)) from ((Below.refl _ _).alloc (by simp) _).alloc (by simp) _)
      clear E
      go_enter Try.func93, Try.ntmps93
      go_wp2
      go_ret
      exact ⟨by rw [unhide EV]; rfl, unhide B0⟩
def StM (M : List Value) (l : List (Int × Int)) (k : Nat) : Prop := ∀ i, i < k → M[i]? = some (stV (l.getD i (0, 0)) (nxt l i))
theorem StM.step {M : List Value} {l : List (Int × Int)} {n k : Nat} (hM : M.length = n) (hk : k < n) (h : StM M l k) : StM (M.set k (stV (l.getD k (0, 0)) (nxt l k))) l (k + 1) := by
  intro i hi
  simp only [List.getElem?_set]
  by_cases e : k = i
  · subst e; rw [if_pos rfl, if_pos (by omega)]
  · rw [if_neg e]; exact h i (by omega)
/-- The stretches of a way, in block G. -/
structure StR9 (w : World) (G n : Nat) (l : List (Int × Int)) : Prop where
  lt : G < w.heap.size
  len : l.length = n
  at_ : ∀ i, i < n → w.cell? ⟨G, i, none⟩ = some (stV (l.getD i (0, 0)) (nxt l i))
theorem StR9.later {w w' : World} {G n : Nat} {l : List (Int × Int)} (h : StR9 w G n l) (hb : Below w.heap.size w w') : StR9 w' G n l :=
  ⟨Nat.lt_of_lt_of_le h.lt hb.size, h.len, fun i hi => cell_later hb (h.at_ i hi)⟩
theorem SgP.but {w w' : World} {G S n : Nat} {l : List (Int × Int)} (h : SgP w S n l) (hb : But G (G + 1) w w') (hg : G < S) : SgP w' S n l :=
  ⟨Nat.lt_of_lt_of_le h.lt hb.size, h.len, fun i hi => ⟨hb.cell (h.at_ i hi).1 (.inr hg), hb.cell (h.at_ i hi).2.1 (.inr hg), hb.cell (h.at_ i hi).2.2.1 (.inr hg), hb.cell (h.at_ i hi).2.2.2 (.inr hg)⟩⟩
theorem but_one9 {w : World} {G k : Nat} {x : Value} : But G (G + 1) w (w.setCell ⟨G, k, none⟩ x) := (But.refl _ _ _).set (p := ⟨G, k, none⟩) (Nat.le_refl G) (Nat.lt_succ_self G) x
theorem infoSt : (Try.prog.info? 98).map (fun i => (i.zero, i.size, i.bytes)) = some (some .nilIface, 1, 16) := by kernel_rfl
set_option maxHeartbeats 4000000 in
theorem stretchesI (a : Option Addr) (n c : Nat) (l : List (Int × Int)) (w : World) (h : SlP w a l) (hn : l.length = n) (h0 : 0 < n) (h1 : n ≤ 1048576) :
    Calls Try.prog 71 #[.slice a n c] w fun e w' => e = .returned (.slice (some ⟨w.heap.size, 0, none⟩) n n) ∧ Below w.heap.size w w' ∧ StR9 w' w.heap.size n l := by
  obtain ⟨i0, hi, hz0, hz1, hz2⟩ := info_parts infoSt
  have HS := hide h
  have HN := hide hn
  clear h hn
  go_enter Try.func71, Try.ntmps71
  go_wp2_with (at_make; refine wpList_make_full _ rfl _ _ 75 rfl w.heap.size 98 i0 .nilIface 1 Try.underlying75 hi hz0 hz1 .i64 .i64 _ _ n rfl rfl rfl rfl ?c1 ?c2 ?c3 ?_)
  case c1 => rw [hz2]; omega
  case c2 => unfold maxLen; omega
  case c3 => exact Nat.le_refl _
  intro w1 hown hgrow
  have hb0 : Below w.heap.size w w1 := (Below.refl _ _).grown hgrow (Nat.le_refl _) (fun k e => by cases e)
  have CS := hide (segsI a n c l w1 ((unhide HS).later hb0) (unhide HN) h0 h1)
  have P0 := hide hown
  clear hown hgrow hi hz0 hz1 hz2
  have HB0 := hide hb0
  clear hb0
  go_wp2_with fail
  refine (unhide CS).mono ?_
  rintro e w2 ⟨rfl, hb, sg⟩
  have SG := hide sg
  have HB2 := hide (below_on (unhide HB0) hb)
  have P2 : Hid (∃ M, w2.ownsRow w.heap.size 98 1 (.slice (some ⟨w.heap.size, 0, none⟩) n n) n M) := hide ⟨_, ownsRow_laterP (unhide P0) hb⟩
  have ltS : w.heap.size < w1.heap.size := row_lt8 (unhide P0)
  clear hb sg CS P0 HB0
  generalize w1.heap.size = S at *
  go_wp2
  go_loopw [12] (fun iv wr => ∃ k : Nat, k ≤ n ∧ iv = .int .i64 k ∧ Hid (∃ M, wr.ownsRow w.heap.size 98 1 (.slice (some ⟨w.heap.size, 0, none⟩) n n) n M ∧ StM M l k) ∧ Hid (SgP wr S n l) ∧ Hid (Below w.heap.size w wr)) (fun iv _ => n - (intOf iv).toNat)
  case atStart =>
    obtain ⟨M, hM⟩ := unhide P2
    exact ⟨0, Nat.zero_le _, rfl, hide ⟨M, hM, fun i hi => absurd hi (by omega)⟩, SG, HB2⟩
  case round =>
    clear P2 HB2 SG
    obtain ⟨k, hk, rfl, EM, SG, HB⟩ := hrel
    by_cases hlt : k < n
    · have hlt' : (k : Int) < (n : Int) := by omega
      have e0 := (unhide SG).at_ k hlt
      obtain ⟨M, hM, hL⟩ := unhide EM
      have HM := hide hM
      have STP := hide (hL.step (by have := hM.1; omega) hlt)
      clear hL EM
      generalize nxt l k = y at *
      generalize l.getD k (0, 0) = x at *
      have E0 := e0.1
      have E1 := e0.2.1
      have E2 := e0.2.2.1
      have E3 := e0.2.2.2
      clear e0
      have al : Below wr.heap.size wr (wr.alloc (.cells #[.int .i64 x.1, .int .i64 x.2, .int .i64 y.1, .int .i64 y.2] 95)) := (Below.refl _ _).alloc (Nat.le_refl _) _
      have CT := hide (stretchI x y (wr.alloc (.cells #[.int .i64 x.1, .int .i64 x.2, .int .i64 y.1, .int .i64 y.2] 95)))
      replace HM := hide (ownsRow_laterP (unhide HM) al)
      replace SG := hide ((unhide SG).later al)
      replace HB := hide (below_on (unhide HB) al)
      clear al hM
      go_wp2_with fail
      refine (unhide CT).mono ?_
      clear CT
      rintro e w4 ⟨rfl, hb⟩
      replace HM := hide (ownsRow_laterP (unhide HM) hb)
      replace SG := hide ((unhide SG).later hb)
      replace HB := hide (below_on (unhide HB) hb)
      clear E0 E1 E2 E3
      have hM := unhide HM
      have hl := hM.1
      obtain ⟨x0, o0⟩ : ∃ x, w4.cell? ⟨w.heap.size, k, none⟩ = some x := by rw [hM.cellAt _ (by omega)]; exact ⟨_, List.getElem?_eq_getElem (by omega)⟩
      have fr : ∀ o, w4.frozen? ⟨w.heap.size, o, none⟩ = false := fun o => hM.frozenAt o
      clear hM hl hb
      have EU : stV x y = .iface (stT x y) (.agg #[.int .i64 x.1, .int .i64 x.2, .int .i64 y.1, .int .i64 y.2]) := rfl
      rw [EU] at STP ⊢
      clear EU
      generalize stT x y = T at *
      generalize Value.agg #[.int .i64 x.1, .int .i64 x.2, .int .i64 y.1, .int .i64 y.2] = u at *
      go_wp2
      go_roundw
      case rel =>
        refine ⟨k + 1, by omega, by go_num, hide ⟨_, (World.ownsRow.stored (unhide HM) k (.iface T u)).1, unhide STP⟩, hide ((unhide SG).but but_one9 ltS), hide ?_⟩
        exact but_one9.below (unhide HB) (Nat.le_refl _) (by have := (unhide HB).size; exact this)
      case measure => simp [intOf]; omega
    · obtain rfl : k = n := by omega
      go_wp2
      go_ret
      obtain ⟨M, hM, hL⟩ := unhide EM
      refine ⟨rfl, unhide HB, (row_lt8 hM), unhide HN, fun i hi => ?_⟩
      rw [hM.cellAt _ (by omega)]; exact hL i hi
theorem method9 (x y : Int × Int) (w : World) : (method 232 (stT x y) (.agg #[.int .i64 x.1, .int .i64 x.2, .int .i64 y.1, .int .i64 y.2]) "loop.example/g00409/impl.has").run Try.prog w = .ok (107, .agg #[.int .i64 x.1, .int .i64 x.2, .int .i64 y.1, .int .i64 y.2]) w := by
  unfold stT
  split
  · kernel_rfl
  · split <;> kernel_rfl
set_option maxHeartbeats 4000000 in
theorem onAnyI (G n : Nat) (l : List (Int × Int)) (p : Int × Int) (w : World) (h : StR9 w G n l) (h0 : 0 < n) (h1 : n ≤ 1048000) (hg : ∀ p ∈ l, Near p) (hp : Near p) :
    Calls Try.prog 70 #[.slice (some ⟨G, 0, none⟩) n n, .agg #[.int .i64 p.1, .int .i64 p.2]] w fun e w' => e = .returned (.bool (onK l p l.length)) ∧ Below w.heap.size w w' := by
  have al0 : Below w.heap.size w (w.alloc (.cells #[.int .i64 p.1, .int .i64 p.2] 31)) := (Below.refl _ _).alloc (Nat.le_refl _) _
  have HS := hide (h.later al0)
  have HN := hide h.len
  have HG := hide hg
  have HP := hide hp
  have KP : Hid ((w.alloc (.cells #[.int .i64 p.1, .int .i64 p.2] 31)).cell? ⟨w.heap.size, 0, none⟩ = some (.int .i64 p.1) ∧ (w.alloc (.cells #[.int .i64 p.1, .int .i64 p.2] 31)).cell? ⟨w.heap.size, 1, none⟩ = some (.int .i64 p.2)) := hide (by simp [go_sem])
  have BA := hide al0
  have lt0 : w.heap.size < (w.alloc (.cells #[.int .i64 p.1, .int .i64 p.2] 31)).heap.size := by simp
  clear h hg hp al0
  go_enter Try.func70, Try.ntmps70
  go_wp2
  generalize w.alloc (.cells #[.int .i64 p.1, .int .i64 p.2] 31) = w0 at *
  go_loopw [9] (fun iv wr => ∃ i : Nat, i ≤ n ∧ iv = .int .i64 i ∧ Hid (onK l p i = false) ∧ Hid (Below w0.heap.size w0 wr)) (fun iv _ => n - (intOf iv).toNat)
  case atStart => exact ⟨0, Nat.zero_le _, rfl, hide rfl, hide (Below.refl _ _)⟩
  case round =>
    obtain ⟨i, hi, rfl, HK, HB⟩ := hrel
    by_cases hlt : i < n
    · have hlt' : (i : Int) < (n : Int) := by omega
      have E0 := ((unhide HS).later (unhide HB)).at_ i hlt
      have np := getD_near9 (unhide HG) i
      have nq := unhide HG _ (nxt_mem (l := l) (by rw [unhide HN]; omega) i)
      have p0 : wr.cell? ⟨w.heap.size, 0, none⟩ = some (.int .i64 p.1) := ((unhide HB).cell (p := ⟨w.heap.size, 0, none⟩) lt0).trans (unhide KP).1
      have p1 : wr.cell? ⟨w.heap.size, 1, none⟩ = some (.int .i64 p.2) := ((unhide HB).cell (p := ⟨w.heap.size, 1, none⟩) lt0).trans (unhide KP).2
      have CO := hide (fun w => hasI (l.getD i (0, 0)) (nxt l i) p w np nq (unhide HP))
      have HV : Hid (onK l p (i + 1) = onV (l.getD i (0, 0)) (nxt l i) p) := hide (by show (onK l p i || _) = _; rw [unhide HK]; rfl)
      generalize onV (l.getD i (0, 0)) (nxt l i) p = v at *
      generalize nxt l i = y at *
      generalize l.getD i (0, 0) = x at *
      clear np nq
      have EU : stV x y = .iface (stT x y) (.agg #[.int .i64 x.1, .int .i64 x.2, .int .i64 y.1, .int .i64 y.2]) := rfl
      rw [EU] at E0
      clear EU
      have MT := fun w => method9 x y w
      generalize stT x y = T at *
      go_wp2_with fail
      refine (unhide CO _).mono ?_
      rintro e w2 ⟨rfl, hb⟩
      have HB1 := hide (below_on (unhide HB) hb)
      clear hb p0 p1 E0 CO MT
      cases v
      · go_wp2
        go_roundw
        case rel => exact ⟨i + 1, by omega, by go_num, HV, HB1⟩
        case measure => simp [intOf]; omega
      · have HT : Hid (onK l p l.length = true) := hide (onK_le (by rw [unhide HN]; omega) (unhide HV))
        go_wp2
        go_ret
        exact ⟨by rw [unhide HT]; rfl, below_on (unhide BA) (unhide HB1)⟩
    · obtain rfl : i = n := by omega
      have HT : Hid (onK l p l.length = false) := hide (by rw [unhide HN]; exact unhide HK)
      go_wp2
      go_ret
      exact ⟨by rw [unhide HT]; rfl, below_on (unhide BA) (unhide HB)⟩
theorem crT_abs (a b p : Int × Int) : ((wiT a b p).natAbs : Int) = crT a b p := by
  unfold wiT crT
  cases upB a b p && (sgZ (crs a b p) == 1) <;> cases dnB a b p && (sgZ (crs a b p) == -1) <;> simp
set_option maxHeartbeats 4000000 in
theorem windI (G n : Nat) (l : List (Int × Int)) (p : Int × Int) (w : World) (h : StR9 w G n l) (h0 : 0 < n) (h1 : n ≤ 1048000) (hg : ∀ p ∈ l, Near p) (hp : Near p) :
    Calls Try.prog 73 #[.slice (some ⟨G, 0, none⟩) n n, .agg #[.int .i64 p.1, .int .i64 p.2]] w fun e w' => e = .returned (.int .i64 (wiS l p l.length)) ∧ Below w.heap.size w w' := by
  have al0 : Below w.heap.size w (w.alloc (.cells #[.int .i64 p.1, .int .i64 p.2] 31)) := (Below.refl _ _).alloc (Nat.le_refl _) _
  have HS := hide (h.later al0)
  have HN := hide h.len
  have HG := hide hg
  have HP := hide hp
  have KP : Hid ((w.alloc (.cells #[.int .i64 p.1, .int .i64 p.2] 31)).cell? ⟨w.heap.size, 0, none⟩ = some (.int .i64 p.1) ∧ (w.alloc (.cells #[.int .i64 p.1, .int .i64 p.2] 31)).cell? ⟨w.heap.size, 1, none⟩ = some (.int .i64 p.2)) := hide (by simp [go_sem])
  have BA := hide al0
  have lt0 : w.heap.size < (w.alloc (.cells #[.int .i64 p.1, .int .i64 p.2] 31)).heap.size := by simp
  clear h hg hp al0
  go_enter Try.func73, Try.ntmps73
  go_wp2
  generalize w.alloc (.cells #[.int .i64 p.1, .int .i64 p.2] 31) = w0 at *
  go_loopw [5, 10] (fun sv iv wr => ∃ i : Nat, i ≤ n ∧ iv = .int .i64 i ∧ sv = .int .i64 (wiS l p i) ∧ Hid (Below w0.heap.size w0 wr)) (fun _ iv _ => n - (intOf iv).toNat)
  case atStart => exact ⟨0, Nat.zero_le _, rfl, rfl, hide (Below.refl _ _)⟩
  case round =>
    obtain ⟨i, hi, rfl, rfl, HB⟩ := hrel
    by_cases hlt : i < n
    · have hlt' : (i : Int) < (n : Int) := by omega
      have E0 := ((unhide HS).later (unhide HB)).at_ i hlt
      have np := getD_near9 (unhide HG) i
      have nq := unhide HG _ (nxt_mem (l := l) (by rw [unhide HN]; omega) i)
      have p0 : wr.cell? ⟨w.heap.size, 0, none⟩ = some (.int .i64 p.1) := ((unhide HB).cell (p := ⟨w.heap.size, 0, none⟩) lt0).trans (unhide KP).1
      have p1 : wr.cell? ⟨w.heap.size, 1, none⟩ = some (.int .i64 p.2) := ((unhide HB).cell (p := ⟨w.heap.size, 1, none⟩) lt0).trans (unhide KP).2
      have CO := hide (fun w => passI (l.getD i (0, 0)) (nxt l i) p w np nq (unhide HP))
      have HV : Hid (wiS l p (i + 1) = wiS l p i + wiT (l.getD i (0, 0)) (nxt l i) p) := hide rfl
      have bs := wiS_bd l p i
      have bt := wiT_bd (l.getD i (0, 0)) (nxt l i) p
      generalize wiT (l.getD i (0, 0)) (nxt l i) p = t at *
      have EQ := hide hi
      generalize wiS l p i = s0 at *
      generalize nxt l i = y at *
      generalize l.getD i (0, 0) = x at *
      have iw : IntKind.i64.wrap (s0 + t) = s0 + t := by rw [IntKind.wrap_i64]; omega
      clear np nq bs bt
      have EU : stV x y = .iface (stT x y) (.agg #[.int .i64 x.1, .int .i64 x.2, .int .i64 y.1, .int .i64 y.2]) := rfl
      rw [EU] at E0 CO
      clear EU
      generalize stT x y = T at *
      go_wp2_with fail
      refine (unhide CO _).mono ?_
      rintro e w2 ⟨rfl, hb⟩
      have HB1 := hide (below_on (unhide HB) hb)
      clear hb p0 p1 E0 CO
      go_wp2
      go_roundw
      case rel => exact ⟨i + 1, by omega, by go_num, by rw [unhide HV], HB1⟩
      case measure => simp [intOf]; omega
    · obtain rfl : i = n := by omega
      have HT : Hid (wiS l p i = wiS l p l.length) := hide (by rw [unhide HN])
      go_wp2
      go_ret
      exact ⟨by rw [← unhide HT]; rfl, below_on (unhide BA) (unhide HB)⟩
set_option maxHeartbeats 4000000 in
theorem OnWayI (a : Option Addr) (n c : Nat) (l : List (Int × Int)) (p : Int × Int) (w : World) (h : ArP w a n c l) (h1 : n ≤ 1048576) :
    Calls Try.prog 28 #[.slice a n c, .agg #[.int .i64 p.1, .int .i64 p.2]] w fun e w' => e = .returned (.tuple #[.bool (ooV l p), .bool (gWP l p)]) ∧ Below w.heap.size w w' := by
  have hn := h.len
  have C1 := hide (fun w (k : SlP w a l) => wayI a n c l w k hn (by unfold maxLen; omega))
  have C2 : Hid (∀ w, Calls Try.prog 62 #[.agg #[.int .i64 p.1, .int .i64 p.2]] w fun e w' => e = .returned (.bool (gPt p)) ∧ Below w.heap.size w w') := hide (fun w => goodPI p.1 p.2 w)
  have HS := hide h.sl
  clear h
  cases hg : gWP l p
  · have EV : ooV l p = false := by unfold ooV; rw [hg]; rfl
    rw [EV]
    clear EV
    have hw : wayB l = true → gPt p = false := fun e => by unfold gWP at hg; rw [e] at hg; exact hg
    clear hg
    cases hy : wayB l
    · rw [hy] at C1
      clear hy hw
      have B0 := hide (show Below w.heap.size w (w.alloc (.cells #[.int .i64 p.1, .int .i64 p.2] 31)) from ((Below.refl _ _).alloc (by simp) _))
      go_enter Try.func28, Try.ntmps28
      go_wp2_with fail
      refine (unhide C1 _ ((unhide HS).later (unhide B0))).mono ?_
      rintro e w1 ⟨rfl, hb⟩
      have HB := hide (below_on (unhide B0) hb)
      clear hb
      go_wp2
      go_ret2
      exact ⟨rfl, unhide HB⟩
    · rw [hy] at C1
      rw [hw hy] at C2
      clear hy hw
      have B0 := hide (show Below w.heap.size w (w.alloc (.cells #[.int .i64 p.1, .int .i64 p.2] 31)) from ((Below.refl _ _).alloc (by simp) _))
      go_enter Try.func28, Try.ntmps28
      go_wp2_with fail
      refine (unhide C1 _ ((unhide HS).later (unhide B0))).mono ?_
      rintro e w1 ⟨rfl, hb⟩
      have k0_0 : w1.cell? ⟨w.heap.size, 0, none⟩ = some (.int .i64 p.1) := cell_later hb (by simp [go_sem])
      have k0_1 : w1.cell? ⟨w.heap.size, 1, none⟩ = some (.int .i64 p.2) := cell_later hb (by simp [go_sem])
      have HB := hide (below_on (unhide B0) hb)
      clear hb
      go_wp2_with fail
      refine (unhide C2 _).mono ?_
      rintro e w2 ⟨rfl, hb⟩
      replace k0_0 := cell_later hb k0_0
      replace k0_1 := cell_later hb k0_1
      replace HB := hide (below_on (unhide HB) hb)
      clear hb
      go_wp2
      go_ret2
      exact ⟨rfl, unhide HB⟩
  · have gp := gWP_parts hg
    have CST := hide (fun w (k : SlP w a l) => stretchesI a n c l w k hn (by omega) (by omega))
    have CO := hide (fun G w (k : StR9 w G n l) => onAnyI G n l p w k (by omega) (by omega) gp.2.1 gp.2.2)
    have hw : wayB l = true ∧ gPt p = true := by unfold gWP at hg; simpa using hg
    rw [hw.1] at C1
    rw [hw.2] at C2
    clear hw
    have EV : ooV l p = onK l p l.length := by unfold ooV; rw [hg]; rfl
    rw [EV]
    clear hg EV gp hn
    generalize onK l p l.length = r at *
    have B0 := hide (show Below w.heap.size w (w.alloc (.cells #[.int .i64 p.1, .int .i64 p.2] 31)) from ((Below.refl _ _).alloc (by simp) _))
    go_enter Try.func28, Try.ntmps28
    go_wp2_with fail
    refine (unhide C1 _ ((unhide HS).later (unhide B0))).mono ?_
    rintro e w1 ⟨rfl, hb⟩
    have k0_0 : w1.cell? ⟨w.heap.size, 0, none⟩ = some (.int .i64 p.1) := cell_later hb (by simp [go_sem])
    have k0_1 : w1.cell? ⟨w.heap.size, 1, none⟩ = some (.int .i64 p.2) := cell_later hb (by simp [go_sem])
    have HB := hide (below_on (unhide B0) hb)
    clear hb
    go_wp2_with fail
    refine (unhide C2 _).mono ?_
    rintro e w2 ⟨rfl, hb⟩
    replace k0_0 := cell_later hb k0_0
    replace k0_1 := cell_later hb k0_1
    replace HB := hide (below_on (unhide HB) hb)
    clear hb
    replace HS := hide ((unhide HS).later (unhide HB))
    go_upto_region 3 with fail
    have HX0 : Hid True := hide trivial
    go_region_held3 (fun w' => w'.cell? ⟨w.heap.size, 0, none⟩ = some (.int .i64 p.1) ∧ w'.cell? ⟨w.heap.size, 1, none⟩ = some (.int .i64 p.2))
      (with_reducible (first | exact ⟨k0_0, k0_1⟩ | exact ⟨cdP k0_0, cdP k0_1⟩ | fail))
      (first
      | (have chk := HX0; go_at_call 71; refine (unhide CST _ ((unhide HS).later (Below.refl _ _).drew)).mono ?_; rintro e w4 ⟨rfl, hb1, st⟩; have hbx := below_of_drew hb1; have ST := hide st; clear st; replace k0_0 := cell_later hbx k0_0; replace k0_1 := cell_later hbx k0_1; replace HS := hide ((unhide HS).later hbx); replace HB := hide (below_on (unhide HB) hbx); clear hb1 hbx; clear HX0 chk; have HX1 : Hid True := hide trivial)
      | (have chk := HX1; go_at_call 70; refine (unhide CO _ _ (unhide ST)).mono ?_; rintro e w5 ⟨rfl, hb1⟩; have hbx := hb1; replace k0_0 := cell_later hbx k0_0; replace k0_1 := cell_later hbx k0_1; replace HS := hide ((unhide HS).later hbx); replace HB := hide (below_on (unhide HB) hbx); clear hb1 hbx; clear HX1 chk)
      | fail)
    go_wp2
    go_ret2
    exact ⟨rfl, unhide HB⟩
set_option maxHeartbeats 4000000 in
theorem besideI (a : Option Addr) (n c : Nat) (l : List (Int × Int)) (p : Int × Int) (w : World) (h : ArP w a n c l) (h1 : n ≤ 1048576) :
    Calls Try.prog 72 #[.slice a n c, .agg #[.int .i64 p.1, .int .i64 p.2]] w fun e w' => ∃ v, e = .returned (.tuple #[v, .bool (offB l p)]) ∧ Below w.heap.size w w' ∧ (offB l p = true → ∃ G, v = .slice (some ⟨G, 0, none⟩) n n ∧ StR9 w' G n l) := by
  have hn := h.len
  have C1 := hide (fun w (k : SlP w a l) => wayI a n c l w k hn (by unfold maxLen; omega))
  have C2 : Hid (∀ w, Calls Try.prog 62 #[.agg #[.int .i64 p.1, .int .i64 p.2]] w fun e w' => e = .returned (.bool (gPt p)) ∧ Below w.heap.size w w') := hide (fun w => goodPI p.1 p.2 w)
  have HS := hide h.sl
  clear h
  cases hg : gWP l p
  · have EO : offB l p = false := by unfold offB; rw [hg]; rfl
    rw [EO]
    clear EO
    have hw : wayB l = true → gPt p = false := fun e => by unfold gWP at hg; rw [e] at hg; exact hg
    clear hg
    cases hy : wayB l
    · rw [hy] at C1
      clear hy hw
      have B0 := hide (show Below w.heap.size w (w.alloc (.cells #[.int .i64 p.1, .int .i64 p.2] 31)) from ((Below.refl _ _).alloc (by simp) _))
      go_enter Try.func72, Try.ntmps72
      go_wp2_with fail
      refine (unhide C1 _ ((unhide HS).later (unhide B0))).mono ?_
      rintro e w1 ⟨rfl, hb⟩
      have HB := hide (below_on (unhide B0) hb)
      clear hb
      go_wp2
      go_ret2
      exact ⟨_, rfl, unhide HB, fun e => by cases e⟩
    · rw [hy] at C1
      rw [hw hy] at C2
      clear hy hw
      have B0 := hide (show Below w.heap.size w (w.alloc (.cells #[.int .i64 p.1, .int .i64 p.2] 31)) from ((Below.refl _ _).alloc (by simp) _))
      go_enter Try.func72, Try.ntmps72
      go_wp2_with fail
      refine (unhide C1 _ ((unhide HS).later (unhide B0))).mono ?_
      rintro e w1 ⟨rfl, hb⟩
      have k0_0 : w1.cell? ⟨w.heap.size, 0, none⟩ = some (.int .i64 p.1) := cell_later hb (by simp [go_sem])
      have k0_1 : w1.cell? ⟨w.heap.size, 1, none⟩ = some (.int .i64 p.2) := cell_later hb (by simp [go_sem])
      have HB := hide (below_on (unhide B0) hb)
      clear hb
      go_wp2_with fail
      refine (unhide C2 _).mono ?_
      rintro e w2 ⟨rfl, hb⟩
      replace k0_0 := cell_later hb k0_0
      replace k0_1 := cell_later hb k0_1
      replace HB := hide (below_on (unhide HB) hb)
      clear hb
      go_wp2
      go_ret2
      exact ⟨_, rfl, unhide HB, fun e => by cases e⟩
  · have gp := gWP_parts hg
    have CST := hide (fun w (k : SlP w a l) => stretchesI a n c l w k hn (by omega) (by omega))
    have CO := hide (fun G w (k : StR9 w G n l) => onAnyI G n l p w k (by omega) (by omega) gp.2.1 gp.2.2)
    have hw : wayB l = true ∧ gPt p = true := by unfold gWP at hg; simpa using hg
    rw [hw.1] at C1
    rw [hw.2] at C2
    clear hw
    cases hq : onK l p l.length
    · skip
      have EO : offB l p = true := by unfold offB; rw [hg, hq]; rfl
      rw [EO]
      rw [hq] at CO
      clear hg hq EO gp hn
      have B0 := hide (show Below w.heap.size w (w.alloc (.cells #[.int .i64 p.1, .int .i64 p.2] 31)) from ((Below.refl _ _).alloc (by simp) _))
      go_enter Try.func72, Try.ntmps72
      go_wp2_with fail
      refine (unhide C1 _ ((unhide HS).later (unhide B0))).mono ?_
      rintro e w1 ⟨rfl, hb⟩
      have k0_0 : w1.cell? ⟨w.heap.size, 0, none⟩ = some (.int .i64 p.1) := cell_later hb (by simp [go_sem])
      have k0_1 : w1.cell? ⟨w.heap.size, 1, none⟩ = some (.int .i64 p.2) := cell_later hb (by simp [go_sem])
      have HB := hide (below_on (unhide B0) hb)
      clear hb
      go_wp2_with fail
      refine (unhide C2 _).mono ?_
      rintro e w2 ⟨rfl, hb⟩
      replace k0_0 := cell_later hb k0_0
      replace k0_1 := cell_later hb k0_1
      replace HB := hide (below_on (unhide HB) hb)
      clear hb
      go_wp2_with fail
      refine (unhide CST _ ((unhide HS).later (unhide HB))).mono ?_
      rintro e w3 ⟨rfl, hb, st⟩
      replace k0_0 := cell_later hb k0_0
      replace k0_1 := cell_later hb k0_1
      replace HB := hide (below_on (unhide HB) hb)
      have ST := hide st
      clear hb st
      generalize w2.heap.size = G at *
      go_wp2_with fail
      refine (unhide CO _ _ (unhide ST)).mono ?_
      rintro e w4 ⟨rfl, hb⟩
      replace ST := hide ((unhide ST).later hb)
      replace HB := hide (below_on (unhide HB) hb)
      clear hb k0_0 k0_1
      go_wp2
      go_ret2
      exact ⟨_, rfl, unhide HB, fun e => ⟨G, rfl, unhide ST⟩⟩
    · skip
      have EO : offB l p = false := by unfold offB; rw [hg, hq]; rfl
      rw [EO]
      rw [hq] at CO
      clear hg hq EO gp hn
      have B0 := hide (show Below w.heap.size w (w.alloc (.cells #[.int .i64 p.1, .int .i64 p.2] 31)) from ((Below.refl _ _).alloc (by simp) _))
      go_enter Try.func72, Try.ntmps72
      go_wp2_with fail
      refine (unhide C1 _ ((unhide HS).later (unhide B0))).mono ?_
      rintro e w1 ⟨rfl, hb⟩
      have k0_0 : w1.cell? ⟨w.heap.size, 0, none⟩ = some (.int .i64 p.1) := cell_later hb (by simp [go_sem])
      have k0_1 : w1.cell? ⟨w.heap.size, 1, none⟩ = some (.int .i64 p.2) := cell_later hb (by simp [go_sem])
      have HB := hide (below_on (unhide B0) hb)
      clear hb
      go_wp2_with fail
      refine (unhide C2 _).mono ?_
      rintro e w2 ⟨rfl, hb⟩
      replace k0_0 := cell_later hb k0_0
      replace k0_1 := cell_later hb k0_1
      replace HB := hide (below_on (unhide HB) hb)
      clear hb
      go_wp2_with fail
      refine (unhide CST _ ((unhide HS).later (unhide HB))).mono ?_
      rintro e w3 ⟨rfl, hb, st⟩
      replace k0_0 := cell_later hb k0_0
      replace k0_1 := cell_later hb k0_1
      replace HB := hide (below_on (unhide HB) hb)
      have ST := hide st
      clear hb st
      generalize w2.heap.size = G at *
      go_wp2_with fail
      refine (unhide CO _ _ (unhide ST)).mono ?_
      rintro e w4 ⟨rfl, hb⟩
      replace ST := hide ((unhide ST).later hb)
      replace HB := hide (below_on (unhide HB) hb)
      clear hb k0_0 k0_1
      go_wp2
      go_ret2
      exact ⟨_, rfl, unhide HB, fun e => by cases e⟩
set_option maxHeartbeats 4000000 in
theorem WindingAtI (a : Option Addr) (n c : Nat) (l : List (Int × Int)) (p : Int × Int) (w : World) (h : ArP w a n c l) (h1 : n ≤ 1048576) :
    Calls Try.prog 29 #[.slice a n c, .agg #[.int .i64 p.1, .int .i64 p.2]] w fun e w' => e = .returned (.tuple #[.int .i64 (wnV l p), .bool (offB l p)]) ∧ Below w.heap.size w w' := by
  have hn := h.len
  have C1 := hide (fun w (k : ArP w a n c l) => besideI a n c l p w k h1)
  have HS := hide h
  clear h
  cases hg : offB l p
  · have EV : (Value.int .i64 (wnV l p)) = .int .i64 0 := by unfold wnV; rw [hg]; rfl
    rw [EV]
    rw [hg] at C1
    clear hg EV
    have B0 := hide (show Below w.heap.size w (w.alloc (.cells #[.int .i64 p.1, .int .i64 p.2] 31)) from ((Below.refl _ _).alloc (by simp) _))
    go_enter Try.func29, Try.ntmps29
    go_wp2_with fail
    refine (unhide C1 _ ((unhide HS).later (unhide B0))).mono ?_
    rintro e w1 ⟨v, rfl, hb, -⟩
    have HB := hide (below_on (unhide B0) hb)
    clear hb
    go_wp2
    go_ret2
    exact ⟨rfl, unhide HB⟩
  · have gp := gWP_parts (show gWP l p = true by unfold offB at hg; simp at hg; exact hg.1)
    have C2 := hide (fun G w (k : StR9 w G n l) => windI G n l p w k (by omega) (by omega) gp.2.1 gp.2.2)
    have bw := wiS_bd l p l.length
    have bc := crS_bd l p l.length
    rw [hg] at C1
    have EV : wnV l p = wiS l p l.length := by unfold wnV; rw [hg]; rfl
    rw [EV]
    clear hg EV gp hn bw bc
    generalize wiS l p l.length = r at *
    have B0 := hide (show Below w.heap.size w (w.alloc (.cells #[.int .i64 p.1, .int .i64 p.2] 31)) from ((Below.refl _ _).alloc (by simp) _))
    go_enter Try.func29, Try.ntmps29
    go_wp2_with fail
    refine (unhide C1 _ ((unhide HS).later (unhide B0))).mono ?_
    rintro e w1 ⟨v, rfl, hb, hv⟩
    obtain ⟨G, rfl, st⟩ := hv (by first | trivial | rfl)
    have ST := hide st
    clear hv st
    have k0_0 : w1.cell? ⟨w.heap.size, 0, none⟩ = some (.int .i64 p.1) := cell_later hb (by simp [go_sem])
    have k0_1 : w1.cell? ⟨w.heap.size, 1, none⟩ = some (.int .i64 p.2) := cell_later hb (by simp [go_sem])
    have HB := hide (below_on (unhide B0) hb)
    clear hb
    go_wp2_with fail
    refine (unhide C2 _ _ (unhide ST)).mono ?_
    rintro e w2 ⟨rfl, hb⟩
    replace HB := hide (below_on (unhide HB) hb)
    clear hb k0_0 k0_1
    go_wp2
    go_ret2
    exact ⟨rfl, unhide HB⟩
end Go.Proofs.Ytgoiodhofbkkdaa

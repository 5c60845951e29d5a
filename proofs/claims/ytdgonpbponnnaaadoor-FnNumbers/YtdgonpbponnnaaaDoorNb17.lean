/- What FnNumbers draws. No condition beyond those typed. Written by mknb17.py. -/
import Derived.Test.YtdgonpbponnnaaaDoorCurD
import Derived.Test.YtdgonpbponnnaaaDoorBt16
namespace Go.Proofs.YtdgonpbponnnaaaDoor
open Go.RowKit
set_option linter.unusedVariables false
set_option maxRecDepth 100000
set_option linter.unusedSimpArgs false

set_option maxHeartbeats 4000000 in
theorem drawAdd (a : Option Addr) (n c : Nat) (w : World) (h : ArY w a n) :
    Calls Tryd.prog 4 #[.slice a n c] w (OutDD w) := by
  have H := hide h
  clear h
  go_enter Tryd.func4, Tryd.ntmps4
  go_wp2_with fail
  have al : Below w.heap.size w ((w.alloc (.cells #[.bool false, .slice none 0 0] 25)).alloc (.cells #[.bool false, .slice none 0 0] 25)) := ((Below.refl _ _).alloc (Nat.le_refl _) _).alloc (by simp) _
  have Z1 : Zb ((w.alloc (.cells #[.bool false, .slice none 0 0] 25)).alloc (.cells #[.bool false, .slice none 0 0] 25)) w.heap.size := Zb.new.later ((Below.refl _ _).alloc (Nat.le_refl _) _)
  have Z2 : Zb ((w.alloc (.cells #[.bool false, .slice none 0 0] 25)).alloc (.cells #[.bool false, .slice none 0 0] 25)) (w.heap.size + 1) := by have k := Zb.new (w := (w.alloc (.cells #[.bool false, .slice none 0 0] 25))) (t := 25); simpa using k
  refine (drawCmp a n c _ ((unhide H).later al)).mono ?_
  rintro e w1 ⟨b1, b2, d1, d2, rfl, a1, a2, o1, o2, l1, l2, hb⟩
  have ZZ1 := Z1.later hb
  have ZZ2 := Z2.later hb
  have r0 := ZZ1.c0
  have r1 := ZZ1.c1
  have rf := ZZ1.fz
  have t0 := ZZ2.c0
  have t1 := ZZ2.c1
  have tf := ZZ2.fz
  have A1 := hide a1
  have A2 := hide a2
  have e0 : ((w.alloc (.cells #[.bool false, .slice none 0 0] 25)).alloc (.cells #[.bool false, .slice none 0 0] 25)).heap.size = w.heap.size + 2 := by simp
  rw [e0] at o1 o2
  have O1 := hide o1
  have O2 := hide o2
  have BW := hide (al.trans (hb.mono (by omega)))
  clear a1 a2 hb Z1 Z2 al e0 o1 o2
  go_wp2_with fail
  refine bodyPost_ret (v := .tuple #[.agg #[.bool b1.g, .slice b1.a b1.n b1.c], .agg #[.bool b2.g, .slice b2.a b2.n b2.c]]) (by simp [results, Tryd.results4, go_sem, r0, r1, t0, t1]) rfl ?_
  exact dd_fin two_set (unhide BW) (unhide O1) (unhide A1) (unhide O2) (Nat.le_refl _) (Nat.le_refl _) (unhide A2) l1 l2
set_option maxHeartbeats 4000000 in
theorem drawGood (a : Option Addr) (n c : Nat) (w : World) (h : ArY w a n) :
    Calls Tryd.prog 40 #[.slice a n c] w (OutD1 w) := by
  have H := hide h
  clear h
  go_enter Tryd.func40, Tryd.ntmps40
  go_wp2_with fail
  have e0 : (w.alloc (.cells #[.bool false, .slice none 0 0] 25)).heap.size = w.heap.size + 1 := by simp
  have al : Below w.heap.size w (w.alloc (.cells #[.bool false, .slice none 0 0] 25)) := (Below.refl _ _).alloc (Nat.le_refl _) _
  have CU : Hid (Cur (w.heap.size + 1) 0 ((w.alloc (.cells #[.bool false, .slice none 0 0] 25)).alloc (.cells #[.slice a n c, .int .i64 0, .int .u64 0] 51))) := hide (e0 ▸ Cur.new (w := (w.alloc (.cells #[.bool false, .slice none 0 0] 25))) (c := c) (t := 51) ((unhide H).later al))
  have al3 : Below (w.alloc (.cells #[.bool false, .slice none 0 0] 25)).heap.size (w.alloc (.cells #[.bool false, .slice none 0 0] 25)) ((w.alloc (.cells #[.bool false, .slice none 0 0] 25)).alloc (.cells #[.slice a n c, .int .i64 0, .int .u64 0] 51)) := (Below.refl _ _).alloc (Nat.le_refl _) _
  have Z1 : Hid (Zb ((w.alloc (.cells #[.bool false, .slice none 0 0] 25)).alloc (.cells #[.slice a n c, .int .i64 0, .int .u64 0] 51)) w.heap.size) := hide (Zb.new.later al3)
  have BW : Hid (Below w.heap.size w ((w.alloc (.cells #[.bool false, .slice none 0 0] 25)).alloc (.cells #[.slice a n c, .int .i64 0, .int .u64 0] 51))) := hide (al.trans (al3.mono (by omega)))
  have sz3 : ((w.alloc (.cells #[.bool false, .slice none 0 0] 25)).alloc (.cells #[.slice a n c, .int .i64 0, .int .u64 0] 51)).heap.size = w.heap.size + 2 := by simp
  clear al al3 e0
  refine (big_v (w.heap.size + 1) 0 _ (unhide CU) (by omega)).mono ?_
  rintro e w2 ⟨b1, d1, rfl, o1, a1, l1, c1, bt⟩
  have ZZ1 := hide ((unhide Z1).keep bt (.inl (by omega)))
  have BW1 : Hid (Below w.heap.size w w2) := hide (bt.below (unhide BW) (by omega) (by omega))
  have O1 := hide (o1.wide (show w.heap.size + 1 ≤ ((w.alloc (.cells #[.bool false, .slice none 0 0] 25)).alloc (.cells #[.slice a n c, .int .i64 0, .int .u64 0] 51)).heap.size by omega) (Nat.le_refl _))
  have A1 := hide a1
  have r0 := (unhide ZZ1).c0
  have r1 := (unhide ZZ1).c1
  have rf := (unhide ZZ1).fz
  clear o1 a1 c1 bt CU Z1 BW
  go_wp2_with fail
  refine bodyPost_ret (v := .agg #[.bool b1.g, .slice b1.a b1.n b1.c]) (by simp [results, Tryd.results40, go_sem, r0, r1]) rfl ?_
  exact d1_fin (unhide BW1) (unhide O1) (Nat.le_refl _) (unhide A1) l1
set_option maxHeartbeats 4000000 in
theorem drawBT (a : Option Addr) (n c : Nat) (w : World) (h : ArY w a n) :
    Calls Tryd.prog 19 #[.slice a n c] w (OutD1 w) := by
  have H := hide h
  clear h
  go_enter Tryd.func19, Tryd.ntmps19
  go_wp2_with fail
  have al : Below w.heap.size w (w.alloc (.cells #[.bool false, .slice none 0 0] 25)) := (Below.refl _ _).alloc (Nat.le_refl _) _
  have e0 : (w.alloc (.cells #[.bool false, .slice none 0 0] 25)).heap.size = w.heap.size + 1 := by simp
  have Z1 : Zb (w.alloc (.cells #[.bool false, .slice none 0 0] 25)) w.heap.size := Zb.new
  refine (drawGood a n c _ ((unhide H).later al)).mono ?_
  rintro e w1 ⟨b, d, rfl, a1, o1, l1, hb⟩
  have Z2 := Z1.later hb
  have r0 := Z2.c0
  have r1 := Z2.c1
  have rf := Z2.fz
  rw [e0] at o1
  have A1 := hide a1
  have O1 := hide o1
  have BW := hide (al.trans (hb.mono (by omega)))
  clear a1 o1 hb Z1 Z2 al e0
  go_wp2_with fail
  refine bodyPost_ret (v := .agg #[.bool b.g, .slice b.a b.n b.c]) (by simp [results, Tryd.results19, go_sem, r0, r1]) rfl ?_
  exact d1_fin (unhide BW) (unhide O1) (Nat.le_refl _) (unhide A1) l1
set_option maxHeartbeats 4000000 in
theorem drawBO (a : Option Addr) (n c : Nat) (w : World) (h : ArY w a n) :
    Calls Tryd.prog 15 #[.slice a n c] w fun e w' => ∃ x : Int, e = .returned (.int .i64 x) ∧ -9223372036854775808 ≤ x ∧ x ≤ 9223372036854775807 ∧ Below w.heap.size w w' := by
  have CU : Hid (Cur w.heap.size 0 (w.alloc (.cells #[.slice a n c, .int .i64 0, .int .u64 0] 51))) := hide (Cur.new (c := c) (t := 51) h)
  have al : Hid (Below w.heap.size w (w.alloc (.cells #[.slice a n c, .int .i64 0, .int .u64 0] 51))) := hide ((Below.refl _ _).alloc (Nat.le_refl _) _)
  clear h
  go_enter Tryd.func15, Tryd.ntmps15
  go_wp2_with fail
  refine (anyInt_v w.heap.size 0 _ (unhide CU) (by omega)).mono ?_
  rintro e w2 ⟨x, rfl, x0, x1, c1, bt⟩
  have BW := hide (bt.below (unhide al) (Nat.le_refl _) (unhide al).size)
  clear bt c1
  go_wp2_with fail
  go_ret
  exact ⟨x, rfl, x0, x1, unhide BW⟩
set_option maxHeartbeats 4000000 in
theorem ofT_v (C T b m : Nat) (zs : List ByteArray) (w : World) (h : Cur C T w) (hT : T ≤ 999990) (hn : zs.length = m) (h0 : 1 ≤ m) (hm : m ≤ 100) (hz : ∀ i (h : i < zs.length), w.cell? ⟨b, i, none⟩ = some (.string zs[i])) (hb : b ≠ C) (hlt : b < w.heap.size) :
    Calls Tryd.prog 47 #[.pointer (some ⟨C, 0, none⟩), .slice (some ⟨b, 0, none⟩) m m] w fun e w' => ∃ s ∈ zs, e = .returned (.string s) ∧ But C (C + 1) w w' := by
  have HC := hide h
  have HZ := hide hz
  have HN := hide hn
  clear h hz hn
  go_enter Tryd.func47, Tryd.ntmps47
  go_wp2_with fail
  refine (pick_v C T (m : Int) _ (unhide HC) (by omega) (by omega)).mono ?_
  rintro e w1 ⟨x, rfl, x0, x1, x2, c1, bt⟩
  replace x1 := x1 (by omega)
  obtain ⟨k, rfl⟩ : ∃ k : Nat, x = (k : Int) := ⟨x.toNat, by omega⟩
  have hk : k < zs.length := by rw [unhide HN]; omega
  have E0 : w1.cell? ⟨b, k, none⟩ = some (.string zs[k]) := bt.cell (unhide HZ k hk) (by omega)
  have HB := hide bt
  have ME := hide (List.getElem_mem hk)
  generalize zs[k] = s at *
  clear bt c1 x2
  go_wp2_with fail
  go_ret
  exact ⟨s, unhide ME, rfl, unhide HB⟩
theorem btV_size (d : BD) : (btV d.g d.xs).size ≤ 2000 := by
  unfold btV
  split
  · rename_i h
    obtain ⟨h1, h2, h3, h4⟩ := good_parts h
    have := dd_big16 h1 h3
    rw [st_size]
    unfold txV
    split <;> simp <;> omega
  · rw [st_size]; simp
set_option maxHeartbeats 4000000 in
theorem drawRB (a : Option Addr) (n c : Nat) (w : World) (h : ArY w a n) :
    Calls Tryd.prog 23 #[.slice a n c] w fun e w' => ∃ s : ByteArray, e = .returned (.string s) ∧ s.size ≤ 2000 ∧ Below w.heap.size w w' := by
  have CU : Hid (Cur w.heap.size 0 (w.alloc (.cells #[.slice a n c, .int .i64 0, .int .u64 0] 51))) := hide (Cur.new (c := c) (t := 51) h)
  have al : Hid (Below w.heap.size w (w.alloc (.cells #[.slice a n c, .int .i64 0, .int .u64 0] 51))) := hide ((Below.refl _ _).alloc (Nat.le_refl _) _)
  have sz1 : Hid (w.heap.size < (w.alloc (.cells #[.slice a n c, .int .i64 0, .int .u64 0] 51)).heap.size) := hide (by simp)
  clear h
  go_enter Tryd.func23, Tryd.ntmps23
  go_wp2_with fail
  refine (big_v w.heap.size 0 _ (unhide CU) (by omega)).mono ?_
  rintro e w2 ⟨b1, d1, rfl, o1, a1, l1, c1, bt⟩
  have BW := hide (bt.below (unhide al) (Nat.le_refl _) (unhide al).size)
  have s2 := Nat.lt_of_lt_of_le (unhide sz1) bt.size
  have C1 := hide c1
  have CT := hide (by have k := BigTextS b1.g b1.a b1.n b1.c d1.xs w2 a1.head.ar; rw [a1.head.sg] at k; exact k)
  have sg := a1.head.sg
  have SZ := hide (btV_size d1)
  clear bt c1 o1 CU al sz1 a1 l1
  generalize btV d1.g d1.xs = t at *
  generalize goodB d1.g d1.xs = gg at *
  rw [sg]
  go_wp2_with fail
  refine (unhide CT).mono ?_
  rintro e w3 ⟨rfl, hb⟩
  have C2 := hide ((unhide C1).later hb)
  have BW2 := hide (below_on (unhide BW) hb)
  have s3 := Nat.lt_of_lt_of_le s2 hb.size
  clear hb CT C1 BW sg
  go_wp2_with fail
  refine (one_v w.heap.size _ 4 _ (unhide C2) (by omega) (by omega)).mono ?_
  rintro e w4 ⟨o, rfl, c2, bt⟩
  have C3 := hide c2
  have BW3 := hide (bt.below (unhide BW2) (Nat.le_refl _) (unhide BW2).size)
  have s4 := Nat.lt_of_lt_of_le s3 bt.size
  clear c2 bt C2 BW2
  cases o
  · go_wp2_with fail
    go_ret
    exact ⟨t, rfl, unhide SZ, unhide BW3⟩
  · have AL : Below w4.heap.size w4 (w4.alloc (.cells #[.string { data := #[] }, .string { data := #[45] }, .string { data := #[45, 48] }, .string { data := #[48, 48, 55] }, .string { data := #[49, 50, 97] }, .string { data := #[48] }, .string { data := #[45, 53] }] 9)) := (Below.refl _ _).alloc (Nat.le_refl _) _
    have C4 := hide ((unhide C3).later AL)
    have BW4 := hide (below_on (unhide BW3) AL)
    clear AL
    go_wp2_with fail
    refine (ofT_v w.heap.size _ w4.heap.size 7 [{ data := #[] }, { data := #[45] }, { data := #[45, 48] }, { data := #[48, 48, 55] }, { data := #[49, 50, 97] }, { data := #[48] }, { data := #[45, 53] }] _ (unhide C4) (by omega) rfl (by omega) (by omega) (fun i hi => by
      have : i = 0 ∨ i = 1 ∨ i = 2 ∨ i = 3 ∨ i = 4 ∨ i = 5 ∨ i = 6 := by simp at hi; omega
      rcases this with rfl | rfl | rfl | rfl | rfl | rfl | rfl <;> simp [go_sem]) (by omega) (by simp)).mono ?_
    rintro e w5 ⟨u, hu, rfl, bt⟩
    have S5 : Hid (u.size ≤ 2000) := hide (by simp at hu; rcases hu with rfl | rfl | rfl | rfl | rfl | rfl | rfl <;> decide)
    have BW5 := hide (bt.below (unhide BW4) (Nat.le_refl _) (unhide BW4).size)
    clear bt hu
    go_wp2_with fail
    go_ret
    exact ⟨u, rfl, unhide S5, unhide BW5⟩
end Go.Proofs.YtdgonpbponnnaaaDoor

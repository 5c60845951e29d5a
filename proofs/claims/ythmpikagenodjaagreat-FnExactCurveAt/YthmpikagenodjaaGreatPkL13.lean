/- An argument of type []Span (or a slice of points of fractions), as it came in: values in a row, each four signs and four slices of integers that lie in memory. No condition. Written by mkopens.py. -/
import Derived.Test.YthmpikagenodjaaGreatPkK13
import Derived.Test.YthmpikagenodjaaGreatOpenQ
import Derived.Test.YthmpikagenodjaaGreatPkH13
import Derived.Deep.Slices
namespace Go.Proofs.YthmpikagenodjaaGreat
open Go.RowKit
set_option linter.unusedVariables false
set_option maxRecDepth 100000
set_option linter.unusedSimpArgs false

/-- Rows of mixed points, one after another; the one left. -/
def rowK (z : Rat) (ps : List (Rat × Rat)) : Nat → List (Rat × Rat)
  | 0 => ps
  | k + 1 => mxR z (rowK z ps k)
def plc (z : Rat) (ps : List (Rat × Rat)) : Rat × Rat := ((rowK z ps (ps.length - 1))[0]?).getD (0, 0)
def bK : Nat → Nat
  | 0 => 40
  | k + 1 => 2 * bK k + 100
theorem bK_le {k : Nat} (h : k ≤ 4) : bK k ≤ 2140 := by
  match k, h with
  | 0, _ => decide
  | 1, _ => decide
  | 2, _ => decide
  | 3, _ => decide
  | 4, _ => decide
theorem rowK_bd {z : Rat} {ps : List (Rat × Rat)} (hz : BdR z 40) (h : BdC ps 40) : ∀ k, BdC (rowK z ps k) (bK k)
  | 0 => h
  | k + 1 => (rowK_bd hz h k).mxR hz
theorem rowK_len (z : Rat) (ps : List (Rat × Rat)) : ∀ k, (rowK z ps k).length = ps.length - k
  | 0 => rfl
  | k + 1 => by show (mxR z (rowK z ps k)).length = _; unfold mxR; rw [zw_len, rowK_len z ps k]; omega

set_option maxHeartbeats 8000000 in
theorem plcI (a : Option Addr) (n c : Nat) (l : List (SV × SD)) (ps : List (Rat × Rat)) (t : QV) (z : Rat) (w : World) (h : RdC w a n c l ps) (hb : BdC ps 40) (h1 : 1 ≤ n) (h5 : n ≤ 5) (ht : IsR w t z) (kt : BdR z 40) :
    Calls Tryz.prog 95 #[.slice a n c, .agg #[.bool t.num.g, .slice t.num.a t.num.n t.num.c, .bool t.den.g, .slice t.den.a t.den.n t.den.c]] w (OutPt w (plc z ps)) := by
  have RD0 := hide h
  have BD := hide hb
  have LP : Hid (ps.length = n) := hide h.len
  have IT00 := hide ht
  have KT := hide kt
  have KB : Hid (Below w.heap.size w ((w.alloc (.cells #[.bool t.num.g, .slice t.num.a t.num.n t.num.c, .bool t.den.g, .slice t.den.a t.den.n t.den.c] 29)).alloc (.cells #[.bool false, .slice none 0 0, .bool false, .slice none 0 0, .bool false, .slice none 0 0, .bool false, .slice none 0 0] 43))) := hide (((Below.refl _ _).alloc (by simp) _).alloc (by simp) _)
  have TC : Hid (((w.alloc (.cells #[.bool t.num.g, .slice t.num.a t.num.n t.num.c, .bool t.den.g, .slice t.den.a t.den.n t.den.c] 29)).alloc (.cells #[.bool false, .slice none 0 0, .bool false, .slice none 0 0, .bool false, .slice none 0 0, .bool false, .slice none 0 0] 43)).cell? ⟨w.heap.size, 0, none⟩ = some (.bool t.num.g) ∧ ((w.alloc (.cells #[.bool t.num.g, .slice t.num.a t.num.n t.num.c, .bool t.den.g, .slice t.den.a t.den.n t.den.c] 29)).alloc (.cells #[.bool false, .slice none 0 0, .bool false, .slice none 0 0, .bool false, .slice none 0 0, .bool false, .slice none 0 0] 43)).cell? ⟨w.heap.size, 1, none⟩ = some (.slice t.num.a t.num.n t.num.c) ∧ ((w.alloc (.cells #[.bool t.num.g, .slice t.num.a t.num.n t.num.c, .bool t.den.g, .slice t.den.a t.den.n t.den.c] 29)).alloc (.cells #[.bool false, .slice none 0 0, .bool false, .slice none 0 0, .bool false, .slice none 0 0, .bool false, .slice none 0 0] 43)).cell? ⟨w.heap.size, 2, none⟩ = some (.bool t.den.g) ∧ ((w.alloc (.cells #[.bool t.num.g, .slice t.num.a t.num.n t.num.c, .bool t.den.g, .slice t.den.a t.den.n t.den.c] 29)).alloc (.cells #[.bool false, .slice none 0 0, .bool false, .slice none 0 0, .bool false, .slice none 0 0, .bool false, .slice none 0 0] 43)).cell? ⟨w.heap.size, 3, none⟩ = some (.slice t.den.a t.den.n t.den.c)) := hide (by refine ⟨?_, ?_, ?_, ?_⟩ <;> simp [go_sem])
  have RC : Hid ((((w.alloc (.cells #[.bool t.num.g, .slice t.num.a t.num.n t.num.c, .bool t.den.g, .slice t.den.a t.den.n t.den.c] 29)).alloc (.cells #[.bool false, .slice none 0 0, .bool false, .slice none 0 0, .bool false, .slice none 0 0, .bool false, .slice none 0 0] 43)).cell? ⟨w.heap.size + 1, 0, none⟩ = some (.bool false) ∧ ((w.alloc (.cells #[.bool t.num.g, .slice t.num.a t.num.n t.num.c, .bool t.den.g, .slice t.den.a t.den.n t.den.c] 29)).alloc (.cells #[.bool false, .slice none 0 0, .bool false, .slice none 0 0, .bool false, .slice none 0 0, .bool false, .slice none 0 0] 43)).cell? ⟨w.heap.size + 1, 1, none⟩ = some (.slice none 0 0) ∧ ((w.alloc (.cells #[.bool t.num.g, .slice t.num.a t.num.n t.num.c, .bool t.den.g, .slice t.den.a t.den.n t.den.c] 29)).alloc (.cells #[.bool false, .slice none 0 0, .bool false, .slice none 0 0, .bool false, .slice none 0 0, .bool false, .slice none 0 0] 43)).cell? ⟨w.heap.size + 1, 2, none⟩ = some (.bool false) ∧ ((w.alloc (.cells #[.bool t.num.g, .slice t.num.a t.num.n t.num.c, .bool t.den.g, .slice t.den.a t.den.n t.den.c] 29)).alloc (.cells #[.bool false, .slice none 0 0, .bool false, .slice none 0 0, .bool false, .slice none 0 0, .bool false, .slice none 0 0] 43)).cell? ⟨w.heap.size + 1, 3, none⟩ = some (.slice none 0 0) ∧ ((w.alloc (.cells #[.bool t.num.g, .slice t.num.a t.num.n t.num.c, .bool t.den.g, .slice t.den.a t.den.n t.den.c] 29)).alloc (.cells #[.bool false, .slice none 0 0, .bool false, .slice none 0 0, .bool false, .slice none 0 0, .bool false, .slice none 0 0] 43)).cell? ⟨w.heap.size + 1, 4, none⟩ = some (.bool false) ∧ ((w.alloc (.cells #[.bool t.num.g, .slice t.num.a t.num.n t.num.c, .bool t.den.g, .slice t.den.a t.den.n t.den.c] 29)).alloc (.cells #[.bool false, .slice none 0 0, .bool false, .slice none 0 0, .bool false, .slice none 0 0, .bool false, .slice none 0 0] 43)).cell? ⟨w.heap.size + 1, 5, none⟩ = some (.slice none 0 0) ∧ ((w.alloc (.cells #[.bool t.num.g, .slice t.num.a t.num.n t.num.c, .bool t.den.g, .slice t.den.a t.den.n t.den.c] 29)).alloc (.cells #[.bool false, .slice none 0 0, .bool false, .slice none 0 0, .bool false, .slice none 0 0, .bool false, .slice none 0 0] 43)).cell? ⟨w.heap.size + 1, 6, none⟩ = some (.bool false) ∧ ((w.alloc (.cells #[.bool t.num.g, .slice t.num.a t.num.n t.num.c, .bool t.den.g, .slice t.den.a t.den.n t.den.c] 29)).alloc (.cells #[.bool false, .slice none 0 0, .bool false, .slice none 0 0, .bool false, .slice none 0 0, .bool false, .slice none 0 0] 43)).cell? ⟨w.heap.size + 1, 7, none⟩ = some (.slice none 0 0)) ∧ ∀ o, ((w.alloc (.cells #[.bool t.num.g, .slice t.num.a t.num.n t.num.c, .bool t.den.g, .slice t.den.a t.den.n t.den.c] 29)).alloc (.cells #[.bool false, .slice none 0 0, .bool false, .slice none 0 0, .bool false, .slice none 0 0, .bool false, .slice none 0 0] 43)).frozen? ⟨w.heap.size + 1, o, none⟩ = false) := hide (by refine ⟨⟨?_, ?_, ?_, ?_, ?_, ?_, ?_, ?_⟩, fun o => ?_⟩ <;> simp [go_sem])
  have sz0 : w.heap.size + 1 + 1 = ((w.alloc (.cells #[.bool t.num.g, .slice t.num.a t.num.n t.num.c, .bool t.den.g, .slice t.den.a t.den.n t.den.c] 29)).alloc (.cells #[.bool false, .slice none 0 0, .bool false, .slice none 0 0, .bool false, .slice none 0 0, .bool false, .slice none 0 0] 43)).heap.size := by simp
  clear h hb ht kt
  go_enter Tryz.func95, Tryz.ntmps95
  go_upto_region 1 with fail
  generalize ((w.alloc (.cells #[.bool t.num.g, .slice t.num.a t.num.n t.num.c, .bool t.den.g, .slice t.den.a t.den.n t.den.c] 29)).alloc (.cells #[.bool false, .slice none 0 0, .bool false, .slice none 0 0, .bool false, .slice none 0 0, .bool false, .slice none 0 0] 43)) = w0 at *
  have lt0 : w.heap.size < w0.heap.size := by omega
  have lt1 : w.heap.size + 1 < w0.heap.size := by omega
  have RD := hide ((unhide RD0).later (unhide KB))
  have IT0 := hide ((unhide IT00).later (unhide KB))
  clear RD0 IT00
  go_wp2
  go_loopw [5] (fun x wr => ∃ (k : Nat) (a' : Option Addr) (m c' : Nat) (l' : List (SV × SD)), x = .slice a' m c' ∧ 1 ≤ m ∧ k + m = n ∧ Hid (RdC wr a' m c' l' (rowK z ps k)) ∧ Hid (Below w0.heap.size w0 wr)) (fun x _ => match x with | .slice _ m _ => m | _ => 0)
  case atStart => exact ⟨0, a, n, c, l, rfl, h1, by omega, RD, hide (Below.refl _ _)⟩
  case round =>
    clear RD
    obtain ⟨k, a', m, c', l', rfl, hm1, hkm, RK, HB⟩ := hrel
    have k0_0 := ((unhide HB).cell (p := ⟨w.heap.size, 0, none⟩) lt0).trans (unhide TC).1
    have k0_1 := ((unhide HB).cell (p := ⟨w.heap.size, 1, none⟩) lt0).trans (unhide TC).2.1
    have k0_2 := ((unhide HB).cell (p := ⟨w.heap.size, 2, none⟩) lt0).trans (unhide TC).2.2.1
    have k0_3 := ((unhide HB).cell (p := ⟨w.heap.size, 3, none⟩) lt0).trans (unhide TC).2.2.2
    have hmx : m ≤ maxLen := Nat.le_trans (unhide RK).ar.cap (unhide RK).ar.top
    unfold maxLen at hmx
    have k4 : k ≤ 4 := by omega
    have bk := bK_le k4
    by_cases hlt : 1 < m
    · have hlt' : (1 : Int) < (m : Int) := by omega
      have IT := hide ((unhide IT0).later (unhide HB))
      go_wp2_with fail
      refine (mixRI a' m c' l' (rowK z ps k) t z (bK k) _ (unhide RK) (rowK_bd (unhide KT) (unhide BD) k) (by omega) hm1 (by omega) (unhide IT) (unhide KT)).mono ?_
      rintro e w2 ⟨a2, m2, c2, l2, rfl, hb2, _, rd2⟩
      have hl2 : m2 = m - 1 := by
        have e1 := rd2.len
        unfold mxR at e1
        rw [zw_len, rowK_len, unhide LP] at e1
        omega
      have RK2 := hide rd2
      have HB2 := hide (below_on (unhide HB) hb2)
      clear hb2 rd2 RK HB IT k0_0 k0_1 k0_2 k0_3
      subst hl2
      go_wp2
      go_roundw
      case rel => exact ⟨k + 1, a2, m - 1, c2, l2, rfl, by omega, by omega, RK2, HB2⟩
      case measure => show m - 1 < m; omega
    · have hm : m = 1 := by omega
      subst hm
      have hs := (unhide HB).size
      have PL : Hid (rowK z ps (ps.length - 1) = rowK z ps k) := hide (by rw [unhide LP, show n - 1 = k by omega])
      have HS := hide (unhide RK).ar
      have HN := hide (unhide RK).ar.len
      have hlx : 0 < 1 := by omega
      rcases (unhide HS).at_ with e | ⟨b, off, rfl, hbb, hcb⟩
      · exact absurd (unhide HN) (by rw [e]; simp)
      have e0 := hcb 0 (by rw [unhide HN]; exact hlx)
      obtain ⟨y, hy⟩ : ∃ y, y = l'[0]'(by rw [unhide HN]; exact hlx) := ⟨_, rfl⟩
      rw [← hy] at e0
      obtain ⟨p, hp1, hp2, hp3, hp4⟩ := (unhide RK).pt (i := 0) (y := y) (by rw [hy]; exact List.getElem?_eq_getElem _)
      have PP : Hid (plc z ps = p) := hide (by unfold plc; rw [unhide PL, hp1]; rfl)
      have BP := hide ((rowK_bd (unhide KT) (unhide BD) k) p hp2)
      have IP := hide hp4
      clear hy hp1 hp2 hp3 hp4 hcb
      have E0 : wr.cell? ⟨b, off, none⟩ = some (.bool y.1.lo.num.g) := by have h := e0.1; simpa using h
      have E1 : wr.cell? ⟨b, off + 1, none⟩ = some (.slice y.1.lo.num.a y.1.lo.num.n y.1.lo.num.c) := by have h := e0.2.1; simpa using h
      have E2 : wr.cell? ⟨b, off + 2, none⟩ = some (.bool y.1.lo.den.g) := by have h := e0.2.2.1; simpa using h
      have E3 : wr.cell? ⟨b, off + 3, none⟩ = some (.slice y.1.lo.den.a y.1.lo.den.n y.1.lo.den.c) := by have h := e0.2.2.2.1; simpa using h
      have E4 : wr.cell? ⟨b, off + 4, none⟩ = some (.bool y.1.hi.num.g) := by have h := e0.2.2.2.2.1; simpa using h
      have E5 : wr.cell? ⟨b, off + 5, none⟩ = some (.slice y.1.hi.num.a y.1.hi.num.n y.1.hi.num.c) := by have h := e0.2.2.2.2.2.1; simpa using h
      have E6 : wr.cell? ⟨b, off + 6, none⟩ = some (.bool y.1.hi.den.g) := by have h := e0.2.2.2.2.2.2.1; simpa using h
      have E7 : wr.cell? ⟨b, off + 7, none⟩ = some (.slice y.1.hi.den.a y.1.hi.den.n y.1.hi.den.c) := by have h := e0.2.2.2.2.2.2.2; simpa using h
      clear e0
      go_wp2_with fail
      refine (cpyP y.1 p _ (unhide IP) ((unhide BP).mono (by omega))).mono ?_
      rintro e w2 ⟨r, xs, us, ys, vs, rfl, hb2, ho, ha, n1, n2, n3, n4⟩
      have HB2 := hide (below_on (unhide HB) hb2)
      have HO := hide ho
      have HA := hide ha
      have NN := hide (And.intro n1 (And.intro n2 (And.intro n3 n4)))
      have k1_0 := ((unhide HB2).cell (p := ⟨w.heap.size + 1, 0, none⟩) lt1).trans (unhide RC).1.1
      have k1_1 := ((unhide HB2).cell (p := ⟨w.heap.size + 1, 1, none⟩) lt1).trans (unhide RC).1.2.1
      have k1_2 := ((unhide HB2).cell (p := ⟨w.heap.size + 1, 2, none⟩) lt1).trans (unhide RC).1.2.2.1
      have k1_3 := ((unhide HB2).cell (p := ⟨w.heap.size + 1, 3, none⟩) lt1).trans (unhide RC).1.2.2.2.1
      have k1_4 := ((unhide HB2).cell (p := ⟨w.heap.size + 1, 4, none⟩) lt1).trans (unhide RC).1.2.2.2.2.1
      have k1_5 := ((unhide HB2).cell (p := ⟨w.heap.size + 1, 5, none⟩) lt1).trans (unhide RC).1.2.2.2.2.2.1
      have k1_6 := ((unhide HB2).cell (p := ⟨w.heap.size + 1, 6, none⟩) lt1).trans (unhide RC).1.2.2.2.2.2.2.1
      have k1_7 := ((unhide HB2).cell (p := ⟨w.heap.size + 1, 7, none⟩) lt1).trans (unhide RC).1.2.2.2.2.2.2.2
      have z1 : ∀ o, w2.frozen? ⟨w.heap.size + 1, o, none⟩ = false := fun o => frozen_later (unhide HB2) lt1 ((unhide RC).2 o)
      clear hb2 ho ha n1 n2 n3 n4 E0 E1 E2 E3 E4 E5 E6 E7 k0_0 k0_1 k0_2 k0_3
      have HBe := hide (below_on (unhide KB) (unhide HB2))
      go_wp2
      refine bodyPost_ret (v := .agg #[.bool r.lo.num.g, .slice r.lo.num.a r.lo.num.n r.lo.num.c, .bool r.lo.den.g, .slice r.lo.den.a r.lo.den.n r.lo.den.c, .bool r.hi.num.g, .slice r.hi.num.a r.hi.num.n r.hi.num.c, .bool r.hi.den.g, .slice r.hi.den.a r.hi.den.n r.hi.den.c]) (by simp [results, Tryz.results95, go_sem, k1_0, k1_1, k1_2, k1_3, k1_4, k1_5, k1_6, k1_7]) rfl ?_
      rw [unhide PP]
      exact outS_fin (R := w.heap.size + 1) (by omega) (unhide HBe) (metS_but (w5 := w2) (v := r) (G := w.heap.size + 1)) ((unhide HO).wide (by omega) (Nat.le_refl _)) (unhide HA) (unhide NN).1 (unhide NN).2.1 (unhide NN).2.2.1 (unhide NN).2.2.2

set_option maxHeartbeats 8000000 in
theorem CatI (a : Option Addr) (n c : Nat) (l : List (SV × SD)) (t : QV) (dt : QD) (w : World) (h : PArS w a n c l) (h' : AllAr w [(t.num, dt.num), (t.den, dt.den)]) :
    Calls Tryz.prog 35 #[.slice a n c, .agg #[.bool t.num.g, .slice t.num.a t.num.n t.num.c, .bool t.den.g, .slice t.den.a t.den.n t.den.c]] w (RetS w (AnsS (gCv (l.map Prod.snd) && gF dt) (nR (plc (vQ dt) (vC l)).1) (dR (plc (vQ dt) (vC l)).1) (nR (plc (vQ dt) (vC l)).2) (dR (plc (vQ dt) (vC l)).2))) := by
  have HS := hide h
  have HT := hide h'
  have HN := hide h.len
  clear h h'
  have CG := hide (fun w1 (k : PArS w1 a n c l) => GoodCI a n c l w1 k)
  have CT := hide (fun w1 (k : AllAr w1 [(t.num, dt.num), (t.den, dt.den)]) => goodDI t dt w1 k)
  cases hp : gCv (l.map Prod.snd)
  · rw [hp] at CG
    rw [Bool.false_and]
    clear CT
    have B0 := hide (show Below w.heap.size w ((w.alloc (.cells #[.bool t.num.g, .slice t.num.a t.num.n t.num.c, .bool t.den.g, .slice t.den.a t.den.n t.den.c] 29)).alloc (.cells #[.bool false, .slice none 0 0, .bool false, .slice none 0 0, .bool false, .slice none 0 0, .bool false, .slice none 0 0] 43)) from (((Below.refl _ _).alloc (by simp) _).alloc (by simp) _))
    go_enter Tryz.func35, Tryz.ntmps35
    go_wp2_with fail
    refine (unhide CG _ ((unhide HS).later (unhide B0))).mono ?_
    rintro e w1 ⟨rfl, hb⟩
    have s1 := hb.size
    simp at s1
    have k1_0 : w1.cell? ⟨w.heap.size + 1, 0, none⟩ = some (.bool false) := cell_later hb (by simp [go_sem])
    have k1_1 : w1.cell? ⟨w.heap.size + 1, 1, none⟩ = some (.slice none 0 0) := cell_later hb (by simp [go_sem])
    have k1_2 : w1.cell? ⟨w.heap.size + 1, 2, none⟩ = some (.bool false) := cell_later hb (by simp [go_sem])
    have k1_3 : w1.cell? ⟨w.heap.size + 1, 3, none⟩ = some (.slice none 0 0) := cell_later hb (by simp [go_sem])
    have k1_4 : w1.cell? ⟨w.heap.size + 1, 4, none⟩ = some (.bool false) := cell_later hb (by simp [go_sem])
    have k1_5 : w1.cell? ⟨w.heap.size + 1, 5, none⟩ = some (.slice none 0 0) := cell_later hb (by simp [go_sem])
    have k1_6 : w1.cell? ⟨w.heap.size + 1, 6, none⟩ = some (.bool false) := cell_later hb (by simp [go_sem])
    have k1_7 : w1.cell? ⟨w.heap.size + 1, 7, none⟩ = some (.slice none 0 0) := cell_later hb (by simp [go_sem])
    have z1 : ∀ o, w1.frozen? ⟨w.heap.size + 1, o, none⟩ = false := fun o => frozen_later hb (by simp) (by simp [go_sem])
    have HB := hide (below_on (unhide B0) hb)
    clear hb
    go_wp2
    refine bodyPost_ret (v := .tuple #[.agg #[.bool false, .slice none 0 0, .bool false, .slice none 0 0, .bool false, .slice none 0 0, .bool false, .slice none 0 0], .bool false]) (by simp [results, Tryz.results35, go_sem, k1_0, k1_1, k1_2, k1_3, k1_4, k1_5, k1_6, k1_7]) rfl ?_
    exact retS_fin (v := (⟨⟨⟨false, none, 0, 0⟩, ⟨false, none, 0, 0⟩⟩, ⟨⟨false, none, 0, 0⟩, ⟨false, none, 0, 0⟩⟩⟩ : SV)) (d := (⟨⟨⟨false, []⟩, ⟨false, []⟩⟩, ⟨⟨false, []⟩, ⟨false, []⟩⟩⟩ : SD)) (R := w.heap.size + 1) (by omega) (unhide HB) (metS_but (w5 := w1) (v := (⟨⟨⟨false, none, 0, 0⟩, ⟨false, none, 0, 0⟩⟩, ⟨⟨false, none, 0, 0⟩, ⟨false, none, 0, 0⟩⟩⟩ : SV)) (G := w.heap.size + 1)) (zeroS _ _ _) (ansS_none _ _ _ _)
  · cases hq : gF dt
    · rw [hp] at CG
      rw [hq] at CT
      have B0 := hide (show Below w.heap.size w ((w.alloc (.cells #[.bool t.num.g, .slice t.num.a t.num.n t.num.c, .bool t.den.g, .slice t.den.a t.den.n t.den.c] 29)).alloc (.cells #[.bool false, .slice none 0 0, .bool false, .slice none 0 0, .bool false, .slice none 0 0, .bool false, .slice none 0 0] 43)) from (((Below.refl _ _).alloc (by simp) _).alloc (by simp) _))
      go_enter Tryz.func35, Tryz.ntmps35
      go_wp2_with fail
      refine (unhide CG _ ((unhide HS).later (unhide B0))).mono ?_
      rintro e w1 ⟨rfl, hb⟩
      have s1 := hb.size
      simp at s1
      have k0_0 : w1.cell? ⟨w.heap.size, 0, none⟩ = some (.bool t.num.g) := cell_later hb (by simp [go_sem])
      have k0_1 : w1.cell? ⟨w.heap.size, 1, none⟩ = some (.slice t.num.a t.num.n t.num.c) := cell_later hb (by simp [go_sem])
      have k0_2 : w1.cell? ⟨w.heap.size, 2, none⟩ = some (.bool t.den.g) := cell_later hb (by simp [go_sem])
      have k0_3 : w1.cell? ⟨w.heap.size, 3, none⟩ = some (.slice t.den.a t.den.n t.den.c) := cell_later hb (by simp [go_sem])
      have k1_0 : w1.cell? ⟨w.heap.size + 1, 0, none⟩ = some (.bool false) := cell_later hb (by simp [go_sem])
      have k1_1 : w1.cell? ⟨w.heap.size + 1, 1, none⟩ = some (.slice none 0 0) := cell_later hb (by simp [go_sem])
      have k1_2 : w1.cell? ⟨w.heap.size + 1, 2, none⟩ = some (.bool false) := cell_later hb (by simp [go_sem])
      have k1_3 : w1.cell? ⟨w.heap.size + 1, 3, none⟩ = some (.slice none 0 0) := cell_later hb (by simp [go_sem])
      have k1_4 : w1.cell? ⟨w.heap.size + 1, 4, none⟩ = some (.bool false) := cell_later hb (by simp [go_sem])
      have k1_5 : w1.cell? ⟨w.heap.size + 1, 5, none⟩ = some (.slice none 0 0) := cell_later hb (by simp [go_sem])
      have k1_6 : w1.cell? ⟨w.heap.size + 1, 6, none⟩ = some (.bool false) := cell_later hb (by simp [go_sem])
      have k1_7 : w1.cell? ⟨w.heap.size + 1, 7, none⟩ = some (.slice none 0 0) := cell_later hb (by simp [go_sem])
      have z1 : ∀ o, w1.frozen? ⟨w.heap.size + 1, o, none⟩ = false := fun o => frozen_later hb (by simp) (by simp [go_sem])
      have HB := hide (below_on (unhide B0) hb)
      clear hb
      go_wp2_with fail
      refine (unhide CT _ ((unhide HT).later (unhide HB))).mono ?_
      rintro e w2 ⟨rfl, hb⟩
      have s2 := hb.size
      replace z1 := fun o => frozen_later hb (World.block_lt_of_cell? _ _ k1_0) (z1 o)
      replace k1_0 := cell_later hb k1_0
      replace k1_1 := cell_later hb k1_1
      replace k1_2 := cell_later hb k1_2
      replace k1_3 := cell_later hb k1_3
      replace k1_4 := cell_later hb k1_4
      replace k1_5 := cell_later hb k1_5
      replace k1_6 := cell_later hb k1_6
      replace k1_7 := cell_later hb k1_7
      clear k0_0 k0_1 k0_2 k0_3
      replace HB := hide (below_on (unhide HB) hb)
      clear hb
      go_wp2
      refine bodyPost_ret (v := .tuple #[.agg #[.bool false, .slice none 0 0, .bool false, .slice none 0 0, .bool false, .slice none 0 0, .bool false, .slice none 0 0], .bool false]) (by simp [results, Tryz.results35, go_sem, k1_0, k1_1, k1_2, k1_3, k1_4, k1_5, k1_6, k1_7]) rfl ?_
      exact retS_fin (v := (⟨⟨⟨false, none, 0, 0⟩, ⟨false, none, 0, 0⟩⟩, ⟨⟨false, none, 0, 0⟩, ⟨false, none, 0, 0⟩⟩⟩ : SV)) (d := (⟨⟨⟨false, []⟩, ⟨false, []⟩⟩, ⟨⟨false, []⟩, ⟨false, []⟩⟩⟩ : SD)) (R := w.heap.size + 1) (by omega) (unhide HB) (metS_but (w5 := w2) (v := (⟨⟨⟨false, none, 0, 0⟩, ⟨false, none, 0, 0⟩⟩, ⟨⟨false, none, 0, 0⟩, ⟨false, none, 0, 0⟩⟩⟩ : SV)) (G := w.heap.size + 1)) (zeroS _ _ _) (ansS_none _ _ _ _)
    · rw [hp] at CG
      rw [hq] at CT
      have n5 : 1 ≤ n ∧ n ≤ 5 := by have := (gCv_mem hp).1; rw [List.length_map, unhide HN] at this; exact this
      have RD := hide (rdC_good (unhide HS) hp)
      have BD := hide (bdC_good hp)
      have JT := hide (gF_good (unhide HT) hq)
      have B0 := hide (show Below w.heap.size w ((w.alloc (.cells #[.bool t.num.g, .slice t.num.a t.num.n t.num.c, .bool t.den.g, .slice t.den.a t.den.n t.den.c] 29)).alloc (.cells #[.bool false, .slice none 0 0, .bool false, .slice none 0 0, .bool false, .slice none 0 0, .bool false, .slice none 0 0] 43)) from (((Below.refl _ _).alloc (by simp) _).alloc (by simp) _))
      go_enter Tryz.func35, Tryz.ntmps35
      go_wp2_with fail
      refine (unhide CG _ ((unhide HS).later (unhide B0))).mono ?_
      rintro e w1 ⟨rfl, hb⟩
      have s1 := hb.size
      simp at s1
      have k0_0 : w1.cell? ⟨w.heap.size, 0, none⟩ = some (.bool t.num.g) := cell_later hb (by simp [go_sem])
      have k0_1 : w1.cell? ⟨w.heap.size, 1, none⟩ = some (.slice t.num.a t.num.n t.num.c) := cell_later hb (by simp [go_sem])
      have k0_2 : w1.cell? ⟨w.heap.size, 2, none⟩ = some (.bool t.den.g) := cell_later hb (by simp [go_sem])
      have k0_3 : w1.cell? ⟨w.heap.size, 3, none⟩ = some (.slice t.den.a t.den.n t.den.c) := cell_later hb (by simp [go_sem])
      have k1_0 : w1.cell? ⟨w.heap.size + 1, 0, none⟩ = some (.bool false) := cell_later hb (by simp [go_sem])
      have k1_1 : w1.cell? ⟨w.heap.size + 1, 1, none⟩ = some (.slice none 0 0) := cell_later hb (by simp [go_sem])
      have k1_2 : w1.cell? ⟨w.heap.size + 1, 2, none⟩ = some (.bool false) := cell_later hb (by simp [go_sem])
      have k1_3 : w1.cell? ⟨w.heap.size + 1, 3, none⟩ = some (.slice none 0 0) := cell_later hb (by simp [go_sem])
      have k1_4 : w1.cell? ⟨w.heap.size + 1, 4, none⟩ = some (.bool false) := cell_later hb (by simp [go_sem])
      have k1_5 : w1.cell? ⟨w.heap.size + 1, 5, none⟩ = some (.slice none 0 0) := cell_later hb (by simp [go_sem])
      have k1_6 : w1.cell? ⟨w.heap.size + 1, 6, none⟩ = some (.bool false) := cell_later hb (by simp [go_sem])
      have k1_7 : w1.cell? ⟨w.heap.size + 1, 7, none⟩ = some (.slice none 0 0) := cell_later hb (by simp [go_sem])
      have z1 : ∀ o, w1.frozen? ⟨w.heap.size + 1, o, none⟩ = false := fun o => frozen_later hb (by simp) (by simp [go_sem])
      have HB := hide (below_on (unhide B0) hb)
      clear hb
      go_wp2_with fail
      refine (unhide CT _ ((unhide HT).later (unhide HB))).mono ?_
      rintro e w2 ⟨rfl, hb⟩
      have s2 := hb.size
      replace z1 := fun o => frozen_later hb (World.block_lt_of_cell? _ _ k1_0) (z1 o)
      replace k0_0 := cell_later hb k0_0
      replace k0_1 := cell_later hb k0_1
      replace k0_2 := cell_later hb k0_2
      replace k0_3 := cell_later hb k0_3
      replace k1_0 := cell_later hb k1_0
      replace k1_1 := cell_later hb k1_1
      replace k1_2 := cell_later hb k1_2
      replace k1_3 := cell_later hb k1_3
      replace k1_4 := cell_later hb k1_4
      replace k1_5 := cell_later hb k1_5
      replace k1_6 := cell_later hb k1_6
      replace k1_7 := cell_later hb k1_7
      replace HB := hide (below_on (unhide HB) hb)
      clear hb
      go_wp2_with fail
      refine (plcI a n c l (vC l) t (vQ dt) _ ((unhide RD).later (unhide HB)) (unhide BD) n5.1 n5.2 ((isR_good (unhide JT)).later (unhide HB)) (bdR_good (unhide JT))).mono ?_
      rintro e w3 ⟨r, xs, us, ys, vs, rfl, hb, ho, ha, n1, n2, n3, n4⟩
      have s3 := hb.size
      have HO := hide ho
      have m1 : r.lo.den.n ≤ maxLen := Nat.le_trans ha.tail.head.ar.cap ha.tail.head.ar.top
      have m2 : r.hi.den.n ≤ maxLen := Nat.le_trans ha.tail.tail.tail.head.ar.cap ha.tail.tail.tail.head.ar.top
      have NN := hide (And.intro n1 (And.intro n2 (And.intro n3 n4)))
      clear ho ha n1 n2 n3 n4
      replace z1 := fun o => frozen_later hb (World.block_lt_of_cell? _ _ k1_0) (z1 o)
      replace k1_0 := cell_later hb k1_0
      replace k1_1 := cell_later hb k1_1
      replace k1_2 := cell_later hb k1_2
      replace k1_3 := cell_later hb k1_3
      replace k1_4 := cell_later hb k1_4
      replace k1_5 := cell_later hb k1_5
      replace k1_6 := cell_later hb k1_6
      replace k1_7 := cell_later hb k1_7
      clear k0_0 k0_1 k0_2 k0_3
      replace HB := hide (below_on (unhide HB) hb)
      clear hb
      go_wp2_with fail
      refine (whereS r _ _ _ _ xs us ys vs w2.heap.size w3.heap.size _ (unhide HO) (Nat.le_refl _) m1 m2 (unhide NN).1 (unhide NN).2.1 (unhide NN).2.2.1 (unhide NN).2.2.2 (dR_ne _) (dR_ne _)).mono ?_
      rintro e w4 ⟨r2, d2, ok, rfl, hb, ov, hu⟩
      have s4 := hb.size
      have OV := hide ov
      have UU := hide hu
      clear ov hu
      replace z1 := fun o => frozen_later hb (World.block_lt_of_cell? _ _ k1_0) (z1 o)
      replace k1_0 := cell_later hb k1_0
      replace k1_1 := cell_later hb k1_1
      replace k1_2 := cell_later hb k1_2
      replace k1_3 := cell_later hb k1_3
      replace k1_4 := cell_later hb k1_4
      replace k1_5 := cell_later hb k1_5
      replace k1_6 := cell_later hb k1_6
      replace k1_7 := cell_later hb k1_7
      replace HB := hide (below_on (unhide HB) hb)
      clear hb
      go_wp2
      refine bodyPost_ret (v := .tuple #[.agg #[.bool r2.lo.num.g, .slice r2.lo.num.a r2.lo.num.n r2.lo.num.c, .bool r2.lo.den.g, .slice r2.lo.den.a r2.lo.den.n r2.lo.den.c, .bool r2.hi.num.g, .slice r2.hi.num.a r2.hi.num.n r2.hi.num.c, .bool r2.hi.den.g, .slice r2.hi.den.a r2.hi.den.n r2.hi.den.c], .bool ok]) (by simp [results, Tryz.results35, go_sem, k1_0, k1_1, k1_2, k1_3, k1_4, k1_5, k1_6, k1_7]) rfl ?_
      exact retS_fin (v := r2) (d := d2) (R := w.heap.size + 1) (by omega) (unhide HB) (metS_but (w5 := w4) (v := r2) (G := w.heap.size + 1)) ((unhide OV).wide (by omega) (by omega)) (unhide UU)

set_option maxHeartbeats 8000000 in
theorem CatS (a : Option Addr) (n c : Nat) (l : List (SV × SD)) (t : QV) (dt : QD) (w : World) (h : PArS w a n c l) (h' : AllAr w [(t.num, dt.num), (t.den, dt.den)]) :
    Calls Tryz.prog 32 #[.slice a n c, .agg #[.bool t.num.g, .slice t.num.a t.num.n t.num.c, .bool t.den.g, .slice t.den.a t.den.n t.den.c]] w (RetS w (AnsS (gCv (l.map Prod.snd) && gF dt) (nR (plc (vQ dt) (vC l)).1) (dR (plc (vQ dt) (vC l)).1) (nR (plc (vQ dt) (vC l)).2) (dR (plc (vQ dt) (vC l)).2))) := by
  have HS := hide h
  have HT := hide h'
  have HN := hide h.len
  clear h h'
  have CG := hide (fun w1 (k : PArS w1 a n c l) => GoodCS a n c l w1 k)
  have CT := hide (fun w1 (k : AllAr w1 [(t.num, dt.num), (t.den, dt.den)]) => smallS2 t dt w1 k)
  cases hp : gCv (l.map Prod.snd)
  · rw [hp] at CG
    rw [Bool.false_and]
    clear CT
    have B0 := hide (show Below w.heap.size w ((w.alloc (.cells #[.bool t.num.g, .slice t.num.a t.num.n t.num.c, .bool t.den.g, .slice t.den.a t.den.n t.den.c] 29)).alloc (.cells #[.bool false, .slice none 0 0, .bool false, .slice none 0 0, .bool false, .slice none 0 0, .bool false, .slice none 0 0] 43)) from (((Below.refl _ _).alloc (by simp) _).alloc (by simp) _))
    go_enter Tryz.func32, Tryz.ntmps32
    go_wp2_with fail
    refine (unhide CG _ ((unhide HS).later (unhide B0))).mono ?_
    rintro e w1 ⟨rfl, hb⟩
    have s1 := hb.size
    simp at s1
    have k1_0 : w1.cell? ⟨w.heap.size + 1, 0, none⟩ = some (.bool false) := cell_later hb (by simp [go_sem])
    have k1_1 : w1.cell? ⟨w.heap.size + 1, 1, none⟩ = some (.slice none 0 0) := cell_later hb (by simp [go_sem])
    have k1_2 : w1.cell? ⟨w.heap.size + 1, 2, none⟩ = some (.bool false) := cell_later hb (by simp [go_sem])
    have k1_3 : w1.cell? ⟨w.heap.size + 1, 3, none⟩ = some (.slice none 0 0) := cell_later hb (by simp [go_sem])
    have k1_4 : w1.cell? ⟨w.heap.size + 1, 4, none⟩ = some (.bool false) := cell_later hb (by simp [go_sem])
    have k1_5 : w1.cell? ⟨w.heap.size + 1, 5, none⟩ = some (.slice none 0 0) := cell_later hb (by simp [go_sem])
    have k1_6 : w1.cell? ⟨w.heap.size + 1, 6, none⟩ = some (.bool false) := cell_later hb (by simp [go_sem])
    have k1_7 : w1.cell? ⟨w.heap.size + 1, 7, none⟩ = some (.slice none 0 0) := cell_later hb (by simp [go_sem])
    have z1 : ∀ o, w1.frozen? ⟨w.heap.size + 1, o, none⟩ = false := fun o => frozen_later hb (by simp) (by simp [go_sem])
    have HB := hide (below_on (unhide B0) hb)
    clear hb
    go_wp2
    refine bodyPost_ret (v := .tuple #[.agg #[.bool false, .slice none 0 0, .bool false, .slice none 0 0, .bool false, .slice none 0 0, .bool false, .slice none 0 0], .bool false]) (by simp [results, Tryz.results32, go_sem, k1_0, k1_1, k1_2, k1_3, k1_4, k1_5, k1_6, k1_7]) rfl ?_
    exact retS_fin (v := (⟨⟨⟨false, none, 0, 0⟩, ⟨false, none, 0, 0⟩⟩, ⟨⟨false, none, 0, 0⟩, ⟨false, none, 0, 0⟩⟩⟩ : SV)) (d := (⟨⟨⟨false, []⟩, ⟨false, []⟩⟩, ⟨⟨false, []⟩, ⟨false, []⟩⟩⟩ : SD)) (R := w.heap.size + 1) (by omega) (unhide HB) (metS_but (w5 := w1) (v := (⟨⟨⟨false, none, 0, 0⟩, ⟨false, none, 0, 0⟩⟩, ⟨⟨false, none, 0, 0⟩, ⟨false, none, 0, 0⟩⟩⟩ : SV)) (G := w.heap.size + 1)) (zeroS _ _ _) (ansS_none _ _ _ _)
  · cases hq : gF dt
    · rw [hp] at CG
      rw [hq] at CT
      have B0 := hide (show Below w.heap.size w ((w.alloc (.cells #[.bool t.num.g, .slice t.num.a t.num.n t.num.c, .bool t.den.g, .slice t.den.a t.den.n t.den.c] 29)).alloc (.cells #[.bool false, .slice none 0 0, .bool false, .slice none 0 0, .bool false, .slice none 0 0, .bool false, .slice none 0 0] 43)) from (((Below.refl _ _).alloc (by simp) _).alloc (by simp) _))
      go_enter Tryz.func32, Tryz.ntmps32
      go_wp2_with fail
      refine (unhide CG _ ((unhide HS).later (unhide B0))).mono ?_
      rintro e w1 ⟨rfl, hb⟩
      have s1 := hb.size
      simp at s1
      have k0_0 : w1.cell? ⟨w.heap.size, 0, none⟩ = some (.bool t.num.g) := cell_later hb (by simp [go_sem])
      have k0_1 : w1.cell? ⟨w.heap.size, 1, none⟩ = some (.slice t.num.a t.num.n t.num.c) := cell_later hb (by simp [go_sem])
      have k0_2 : w1.cell? ⟨w.heap.size, 2, none⟩ = some (.bool t.den.g) := cell_later hb (by simp [go_sem])
      have k0_3 : w1.cell? ⟨w.heap.size, 3, none⟩ = some (.slice t.den.a t.den.n t.den.c) := cell_later hb (by simp [go_sem])
      have k1_0 : w1.cell? ⟨w.heap.size + 1, 0, none⟩ = some (.bool false) := cell_later hb (by simp [go_sem])
      have k1_1 : w1.cell? ⟨w.heap.size + 1, 1, none⟩ = some (.slice none 0 0) := cell_later hb (by simp [go_sem])
      have k1_2 : w1.cell? ⟨w.heap.size + 1, 2, none⟩ = some (.bool false) := cell_later hb (by simp [go_sem])
      have k1_3 : w1.cell? ⟨w.heap.size + 1, 3, none⟩ = some (.slice none 0 0) := cell_later hb (by simp [go_sem])
      have k1_4 : w1.cell? ⟨w.heap.size + 1, 4, none⟩ = some (.bool false) := cell_later hb (by simp [go_sem])
      have k1_5 : w1.cell? ⟨w.heap.size + 1, 5, none⟩ = some (.slice none 0 0) := cell_later hb (by simp [go_sem])
      have k1_6 : w1.cell? ⟨w.heap.size + 1, 6, none⟩ = some (.bool false) := cell_later hb (by simp [go_sem])
      have k1_7 : w1.cell? ⟨w.heap.size + 1, 7, none⟩ = some (.slice none 0 0) := cell_later hb (by simp [go_sem])
      have z1 : ∀ o, w1.frozen? ⟨w.heap.size + 1, o, none⟩ = false := fun o => frozen_later hb (by simp) (by simp [go_sem])
      have HB := hide (below_on (unhide B0) hb)
      clear hb
      go_wp2_with fail
      refine (unhide CT _ ((unhide HT).later (unhide HB))).mono ?_
      rintro e w2 ⟨rfl, hb⟩
      have s2 := hb.size
      replace z1 := fun o => frozen_later hb (World.block_lt_of_cell? _ _ k1_0) (z1 o)
      replace k1_0 := cell_later hb k1_0
      replace k1_1 := cell_later hb k1_1
      replace k1_2 := cell_later hb k1_2
      replace k1_3 := cell_later hb k1_3
      replace k1_4 := cell_later hb k1_4
      replace k1_5 := cell_later hb k1_5
      replace k1_6 := cell_later hb k1_6
      replace k1_7 := cell_later hb k1_7
      clear k0_0 k0_1 k0_2 k0_3
      replace HB := hide (below_on (unhide HB) hb)
      clear hb
      go_wp2
      refine bodyPost_ret (v := .tuple #[.agg #[.bool false, .slice none 0 0, .bool false, .slice none 0 0, .bool false, .slice none 0 0, .bool false, .slice none 0 0], .bool false]) (by simp [results, Tryz.results32, go_sem, k1_0, k1_1, k1_2, k1_3, k1_4, k1_5, k1_6, k1_7]) rfl ?_
      exact retS_fin (v := (⟨⟨⟨false, none, 0, 0⟩, ⟨false, none, 0, 0⟩⟩, ⟨⟨false, none, 0, 0⟩, ⟨false, none, 0, 0⟩⟩⟩ : SV)) (d := (⟨⟨⟨false, []⟩, ⟨false, []⟩⟩, ⟨⟨false, []⟩, ⟨false, []⟩⟩⟩ : SD)) (R := w.heap.size + 1) (by omega) (unhide HB) (metS_but (w5 := w2) (v := (⟨⟨⟨false, none, 0, 0⟩, ⟨false, none, 0, 0⟩⟩, ⟨⟨false, none, 0, 0⟩, ⟨false, none, 0, 0⟩⟩⟩ : SV)) (G := w.heap.size + 1)) (zeroS _ _ _) (ansS_none _ _ _ _)
    · rw [hp] at CG
      rw [hq] at CT
      have n5 : 1 ≤ n ∧ n ≤ 5 := by have := (gCv_mem hp).1; rw [List.length_map, unhide HN] at this; exact this
      have RD := hide (rdC_good (unhide HS) hp)
      have BD := hide (bdC_good hp)
      have JT := hide (gF_good (unhide HT) hq)
      have B0 := hide (show Below w.heap.size w ((w.alloc (.cells #[.bool t.num.g, .slice t.num.a t.num.n t.num.c, .bool t.den.g, .slice t.den.a t.den.n t.den.c] 29)).alloc (.cells #[.bool false, .slice none 0 0, .bool false, .slice none 0 0, .bool false, .slice none 0 0, .bool false, .slice none 0 0] 43)) from (((Below.refl _ _).alloc (by simp) _).alloc (by simp) _))
      go_enter Tryz.func32, Tryz.ntmps32
      go_wp2_with fail
      refine (unhide CG _ ((unhide HS).later (unhide B0))).mono ?_
      rintro e w1 ⟨rfl, hb⟩
      have s1 := hb.size
      simp at s1
      have k0_0 : w1.cell? ⟨w.heap.size, 0, none⟩ = some (.bool t.num.g) := cell_later hb (by simp [go_sem])
      have k0_1 : w1.cell? ⟨w.heap.size, 1, none⟩ = some (.slice t.num.a t.num.n t.num.c) := cell_later hb (by simp [go_sem])
      have k0_2 : w1.cell? ⟨w.heap.size, 2, none⟩ = some (.bool t.den.g) := cell_later hb (by simp [go_sem])
      have k0_3 : w1.cell? ⟨w.heap.size, 3, none⟩ = some (.slice t.den.a t.den.n t.den.c) := cell_later hb (by simp [go_sem])
      have k1_0 : w1.cell? ⟨w.heap.size + 1, 0, none⟩ = some (.bool false) := cell_later hb (by simp [go_sem])
      have k1_1 : w1.cell? ⟨w.heap.size + 1, 1, none⟩ = some (.slice none 0 0) := cell_later hb (by simp [go_sem])
      have k1_2 : w1.cell? ⟨w.heap.size + 1, 2, none⟩ = some (.bool false) := cell_later hb (by simp [go_sem])
      have k1_3 : w1.cell? ⟨w.heap.size + 1, 3, none⟩ = some (.slice none 0 0) := cell_later hb (by simp [go_sem])
      have k1_4 : w1.cell? ⟨w.heap.size + 1, 4, none⟩ = some (.bool false) := cell_later hb (by simp [go_sem])
      have k1_5 : w1.cell? ⟨w.heap.size + 1, 5, none⟩ = some (.slice none 0 0) := cell_later hb (by simp [go_sem])
      have k1_6 : w1.cell? ⟨w.heap.size + 1, 6, none⟩ = some (.bool false) := cell_later hb (by simp [go_sem])
      have k1_7 : w1.cell? ⟨w.heap.size + 1, 7, none⟩ = some (.slice none 0 0) := cell_later hb (by simp [go_sem])
      have z1 : ∀ o, w1.frozen? ⟨w.heap.size + 1, o, none⟩ = false := fun o => frozen_later hb (by simp) (by simp [go_sem])
      have HB := hide (below_on (unhide B0) hb)
      clear hb
      go_wp2_with fail
      refine (unhide CT _ ((unhide HT).later (unhide HB))).mono ?_
      rintro e w2 ⟨rfl, hb⟩
      have s2 := hb.size
      replace z1 := fun o => frozen_later hb (World.block_lt_of_cell? _ _ k1_0) (z1 o)
      replace k0_0 := cell_later hb k0_0
      replace k0_1 := cell_later hb k0_1
      replace k0_2 := cell_later hb k0_2
      replace k0_3 := cell_later hb k0_3
      replace k1_0 := cell_later hb k1_0
      replace k1_1 := cell_later hb k1_1
      replace k1_2 := cell_later hb k1_2
      replace k1_3 := cell_later hb k1_3
      replace k1_4 := cell_later hb k1_4
      replace k1_5 := cell_later hb k1_5
      replace k1_6 := cell_later hb k1_6
      replace k1_7 := cell_later hb k1_7
      replace HB := hide (below_on (unhide HB) hb)
      clear hb
      have TC : Hid (w2.cell? ⟨w.heap.size, 0, none⟩ = some (.bool t.num.g) ∧ w2.cell? ⟨w.heap.size, 1, none⟩ = some (.slice t.num.a t.num.n t.num.c) ∧ w2.cell? ⟨w.heap.size, 2, none⟩ = some (.bool t.den.g) ∧ w2.cell? ⟨w.heap.size, 3, none⟩ = some (.slice t.den.a t.den.n t.den.c)) := hide ⟨k0_0, k0_1, k0_2, k0_3⟩
      have RC : Hid ((w2.cell? ⟨w.heap.size + 1, 0, none⟩ = some (.bool false) ∧ w2.cell? ⟨w.heap.size + 1, 1, none⟩ = some (.slice none 0 0) ∧ w2.cell? ⟨w.heap.size + 1, 2, none⟩ = some (.bool false) ∧ w2.cell? ⟨w.heap.size + 1, 3, none⟩ = some (.slice none 0 0) ∧ w2.cell? ⟨w.heap.size + 1, 4, none⟩ = some (.bool false) ∧ w2.cell? ⟨w.heap.size + 1, 5, none⟩ = some (.slice none 0 0) ∧ w2.cell? ⟨w.heap.size + 1, 6, none⟩ = some (.bool false) ∧ w2.cell? ⟨w.heap.size + 1, 7, none⟩ = some (.slice none 0 0)) ∧ ∀ o, w2.frozen? ⟨w.heap.size + 1, o, none⟩ = false) := hide ⟨⟨k1_0, k1_1, k1_2, k1_3, k1_4, k1_5, k1_6, k1_7⟩, z1⟩
      have lt0 : w.heap.size < w2.heap.size := World.block_lt_of_cell? _ _ k0_0
      have lt1 : w.heap.size + 1 < w2.heap.size := World.block_lt_of_cell? _ _ k1_0
      clear k0_0 k0_1 k0_2 k0_3 k1_0 k1_1 k1_2 k1_3 k1_4 k1_5 k1_6 k1_7 z1
      have KB := HB
      have RD2 := hide ((unhide RD).later (unhide HB))
      have IT0 := hide ((isR_good (unhide JT)).later (unhide HB))
      have KT := hide (bdR_good (unhide JT))
      have LP : Hid ((vC l).length = n) := hide (unhide RD).len
      clear HB RD
      go_wp2
      go_loopw [0] (fun x wr => ∃ (k : Nat) (a' : Option Addr) (m c' : Nat) (l' : List (SV × SD)), x = .slice a' m c' ∧ 1 ≤ m ∧ k + m = n ∧ Hid (RdC wr a' m c' l' (rowK (vQ dt) (vC l) k)) ∧ Hid (Below w2.heap.size w2 wr)) (fun x _ => match x with | .slice _ m _ => m | _ => 0)
      case atStart => exact ⟨0, a, n, c, l, rfl, n5.1, by omega, RD2, hide (Below.refl _ _)⟩
      case round =>
        clear RD2
        obtain ⟨k, a', m, c', l', rfl, hm1, hkm, RK, HB⟩ := hrel
        have k0_0 := ((unhide HB).cell (p := ⟨w.heap.size, 0, none⟩) lt0).trans (unhide TC).1
        have k0_1 := ((unhide HB).cell (p := ⟨w.heap.size, 1, none⟩) lt0).trans (unhide TC).2.1
        have k0_2 := ((unhide HB).cell (p := ⟨w.heap.size, 2, none⟩) lt0).trans (unhide TC).2.2.1
        have k0_3 := ((unhide HB).cell (p := ⟨w.heap.size, 3, none⟩) lt0).trans (unhide TC).2.2.2
        have hmx : m ≤ maxLen := Nat.le_trans (unhide RK).ar.cap (unhide RK).ar.top
        unfold maxLen at hmx
        have k4 : k ≤ 4 := by omega
        have bk := bK_le k4
        by_cases hlt : 1 < m
        · have hlt' : (1 : Int) < (m : Int) := by omega
          have IT := hide ((unhide IT0).later (unhide HB))
          go_wp2_with fail
          refine (mixRS a' m c' l' (rowK (vQ dt) (vC l) k) t (vQ dt) (bK k) _ (unhide RK) (rowK_bd (unhide KT) (unhide BD) k) (by omega) hm1 (by omega) (unhide IT) (unhide KT)).mono ?_
          rintro e w3 ⟨a2, m2, c2, l2, rfl, hb2, rd2, _⟩
          have hl2 : m2 = m - 1 := by
            have e1 := rd2.len
            unfold mxR at e1
            rw [zw_len, rowK_len, unhide LP] at e1
            omega
          have RK2 := hide rd2
          have HB2 := hide (below_on (unhide HB) hb2)
          clear hb2 rd2 RK HB IT k0_0 k0_1 k0_2 k0_3
          subst hl2
          go_wp2
          go_roundw
          case rel => exact ⟨k + 1, a2, m - 1, c2, l2, rfl, by omega, by omega, RK2, HB2⟩
          case measure => show m - 1 < m; omega
        · have hm : m = 1 := by omega
          subst hm
          have hs := (unhide HB).size
          have PL : Hid (rowK (vQ dt) (vC l) ((vC l).length - 1) = rowK (vQ dt) (vC l) k) := hide (by rw [unhide LP, show n - 1 = k by omega])
          have HS2 := hide (unhide RK).ar
          have HN2 := hide (unhide RK).ar.len
          have hlx : 0 < 1 := by omega
          rcases (unhide HS2).at_ with e | ⟨b, off, rfl, hbb, hcb⟩
          · exact absurd (unhide HN2) (by rw [e]; simp)
          have e0 := hcb 0 (by rw [unhide HN2]; exact hlx)
          obtain ⟨y, hy⟩ : ∃ y, y = l'[0]'(by rw [unhide HN2]; exact hlx) := ⟨_, rfl⟩
          rw [← hy] at e0
          obtain ⟨p, hp1, hp2, hp3, hp4⟩ := (unhide RK).pt (i := 0) (y := y) (by rw [hy]; exact List.getElem?_eq_getElem _)
          have PP : Hid (plc (vQ dt) (vC l) = p) := hide (by unfold plc; rw [unhide PL, hp1]; rfl)
          have IP := hide hp4
          clear hy hp1 hp2 hp3 hp4 hcb
          have E0 : wr.cell? ⟨b, off, none⟩ = some (.bool y.1.lo.num.g) := by have h := e0.1; simpa using h
          have E1 : wr.cell? ⟨b, off + 1, none⟩ = some (.slice y.1.lo.num.a y.1.lo.num.n y.1.lo.num.c) := by have h := e0.2.1; simpa using h
          have E2 : wr.cell? ⟨b, off + 2, none⟩ = some (.bool y.1.lo.den.g) := by have h := e0.2.2.1; simpa using h
          have E3 : wr.cell? ⟨b, off + 3, none⟩ = some (.slice y.1.lo.den.a y.1.lo.den.n y.1.lo.den.c) := by have h := e0.2.2.2.1; simpa using h
          have E4 : wr.cell? ⟨b, off + 4, none⟩ = some (.bool y.1.hi.num.g) := by have h := e0.2.2.2.2.1; simpa using h
          have E5 : wr.cell? ⟨b, off + 5, none⟩ = some (.slice y.1.hi.num.a y.1.hi.num.n y.1.hi.num.c) := by have h := e0.2.2.2.2.2.1; simpa using h
          have E6 : wr.cell? ⟨b, off + 6, none⟩ = some (.bool y.1.hi.den.g) := by have h := e0.2.2.2.2.2.2.1; simpa using h
          have E7 : wr.cell? ⟨b, off + 7, none⟩ = some (.slice y.1.hi.den.a y.1.hi.den.n y.1.hi.den.c) := by have h := e0.2.2.2.2.2.2.2; simpa using h
          clear e0
          go_wp2_with fail
          refine (fitsSS y.1 _ _ _ _ _ (unhide IP).x (unhide IP).y (dR_pos _) (dR_pos _)).mono ?_
          rintro e w4 ⟨r2, d2, ok, rfl, hb2, ov, hu⟩
          have s4 := hb2.size
          have HB2 := hide (below_on (unhide HB) hb2)
          have OV := hide ov
          have UU : Hid (AnsS (true && true) (nR (plc (vQ dt) (vC l)).1) (dR (plc (vQ dt) (vC l)).1) (nR (plc (vQ dt) (vC l)).2) (dR (plc (vQ dt) (vC l)).2) d2 ok) := hide (by rw [unhide PP]; exact hu)
          have k1_0 := ((unhide HB2).cell (p := ⟨w.heap.size + 1, 0, none⟩) lt1).trans (unhide RC).1.1
          have k1_1 := ((unhide HB2).cell (p := ⟨w.heap.size + 1, 1, none⟩) lt1).trans (unhide RC).1.2.1
          have k1_2 := ((unhide HB2).cell (p := ⟨w.heap.size + 1, 2, none⟩) lt1).trans (unhide RC).1.2.2.1
          have k1_3 := ((unhide HB2).cell (p := ⟨w.heap.size + 1, 3, none⟩) lt1).trans (unhide RC).1.2.2.2.1
          have k1_4 := ((unhide HB2).cell (p := ⟨w.heap.size + 1, 4, none⟩) lt1).trans (unhide RC).1.2.2.2.2.1
          have k1_5 := ((unhide HB2).cell (p := ⟨w.heap.size + 1, 5, none⟩) lt1).trans (unhide RC).1.2.2.2.2.2.1
          have k1_6 := ((unhide HB2).cell (p := ⟨w.heap.size + 1, 6, none⟩) lt1).trans (unhide RC).1.2.2.2.2.2.2.1
          have k1_7 := ((unhide HB2).cell (p := ⟨w.heap.size + 1, 7, none⟩) lt1).trans (unhide RC).1.2.2.2.2.2.2.2
          have z1 : ∀ o, w4.frozen? ⟨w.heap.size + 1, o, none⟩ = false := fun o => frozen_later (unhide HB2) lt1 ((unhide RC).2 o)
          clear hb2 ov hu E0 E1 E2 E3 E4 E5 E6 E7 k0_0 k0_1 k0_2 k0_3
          replace HB := hide (below_on (unhide KB) (unhide HB2))
          go_wp2
          refine bodyPost_ret (v := .tuple #[.agg #[.bool r2.lo.num.g, .slice r2.lo.num.a r2.lo.num.n r2.lo.num.c, .bool r2.lo.den.g, .slice r2.lo.den.a r2.lo.den.n r2.lo.den.c, .bool r2.hi.num.g, .slice r2.hi.num.a r2.hi.num.n r2.hi.num.c, .bool r2.hi.den.g, .slice r2.hi.den.a r2.hi.den.n r2.hi.den.c], .bool ok]) (by simp [results, Tryz.results32, go_sem, k1_0, k1_1, k1_2, k1_3, k1_4, k1_5, k1_6, k1_7]) rfl ?_
          exact retS_fin (v := r2) (d := d2) (R := w.heap.size + 1) (by omega) (unhide HB) (metS_but (w5 := w4) (v := r2) (G := w.heap.size + 1)) ((unhide OV).wide (by omega) (by omega)) (unhide UU)
end Go.Proofs.YthmpikagenodjaaGreat
namespace Go.Proofs.YthmpikagenodjaaGreat
open Go.ChangeShapes Go.WideShapes Go.ChangeAt Go.RowKit Go.Joins
set_option linter.unusedVariables false
set_option maxRecDepth 100000
set_option linter.unusedSimpArgs false

theorem Tryz.cells68 : Tryz.prog.cellsOf 68 = 8 := by kernel_rfl
end Go.Proofs.YthmpikagenodjaaGreat
namespace Go.Proofs.YthmpikagenodjaaGreat
open Go.ChangeShapes Go.WideShapes Go.ChangeAt Go.RowKit Go.Joins
set_option linter.unusedVariables false
set_option maxRecDepth 100000
set_option linter.unusedSimpArgs false

theorem open_ratc {H : Type} {enc : TypeId × Value → H} {W : World} {m : Nat} {c0 c1 c2 c3 : Value} {x : DataW H × List MemPlace}
    (hf : DataW.trod enc Tryz.prog W 0 (fun _ => true) true m 56 [c0, c1, c2, c3] = some x) :
    ∃ p : QV × QD, (c0 = .bool p.1.num.g ∧ c1 = .slice p.1.num.a p.1.num.n p.1.num.c ∧ c2 = .bool p.1.den.g ∧ c3 = .slice p.1.den.a p.1.den.n p.1.den.c) ∧ AllSl W [(p.1.num, p.2.num), (p.1.den, p.2.den)] ∧ p.1.num.n ≤ maxLen ∧ p.1.den.n ≤ maxLen := by
  obtain ⟨y0, y1, n, hx, _, h0, h1⟩ := trod_struct2 Tryz.underlying56 hf
  have k0 : DataW.trod enc Tryz.prog W 0 (fun _ => true) true n 54 [c0, c1] = some y0 := by simpa [Value.cells, Tryz.cells54] using h0
  have k1 : DataW.trod enc Tryz.prog W 0 (fun _ => true) true n 54 [c2, c3] = some y1 := by simpa [Value.cells, Tryz.cells54] using h1
  obtain ⟨z0, z1, n1, _, _, p0, p1⟩ := trod_struct2 Tryz.underlying54 k0
  obtain ⟨z2, z3, n2, _, _, p2, p3⟩ := trod_struct2 Tryz.underlying54 k1
  have c_b : Tryz.prog.cellsOf 4 = 1 := by kernel_rfl
  have c_s : Tryz.prog.cellsOf 25 = 1 := by kernel_rfl
  obtain ⟨g, a, n', c, xs, rfl, rfl, s1, s2, s3, _⟩ := open_two (c0 := c0) (c1 := c1) (by simpa [c_b] using p0) (by simpa [c_s] using p1)
  obtain ⟨h, b, q, e, us, rfl, rfl, t1, t2, t3, _⟩ := open_two (c0 := c2) (c1 := c3) (by simpa [c_b] using p2) (by simpa [c_s] using p3)
  exact ⟨(⟨⟨g, a, n', c⟩, ⟨h, b, q, e⟩⟩, ⟨⟨g, xs⟩, ⟨h, us⟩⟩), ⟨rfl, rfl, rfl, rfl⟩, AllSl.cons ⟨rfl, s1, s2⟩ (AllSl.cons ⟨rfl, t1, t2⟩ (AllSl.nil _)), s3, t3⟩
theorem addr_add (b off k : Nat) : (⟨b, off, none⟩ : Addr).add k = ⟨b, off + k, none⟩ := by
  unfold Addr.add
  split
  · rename_i h; subst h; rfl
  · rfl
end Go.Proofs.YthmpikagenodjaaGreat
namespace Go.Proofs.YthmpikagenodjaaGreat
open Go.ChangeShapes Go.WideShapes Go.ChangeAt Go.RowKit Go.Joins
set_option linter.unusedVariables false
set_option maxRecDepth 100000
set_option linter.unusedSimpArgs false

theorem open_spanc {H : Type} {enc : TypeId × Value → H} {W : World} {m : Nat} {c0 c1 c2 c3 c4 c5 c6 c7 : Value} {x : DataW H × List MemPlace}
    (hf : DataW.trod enc Tryz.prog W 0 (fun _ => true) true m 68 [c0, c1, c2, c3, c4, c5, c6, c7] = some x) :
    ∃ p : SV × SD, (c0 = .bool p.1.lo.num.g ∧ c1 = .slice p.1.lo.num.a p.1.lo.num.n p.1.lo.num.c ∧ c2 = .bool p.1.lo.den.g ∧ c3 = .slice p.1.lo.den.a p.1.lo.den.n p.1.lo.den.c ∧ c4 = .bool p.1.hi.num.g ∧ c5 = .slice p.1.hi.num.a p.1.hi.num.n p.1.hi.num.c ∧ c6 = .bool p.1.hi.den.g ∧ c7 = .slice p.1.hi.den.a p.1.hi.den.n p.1.hi.den.c) ∧ AllSl W [(p.1.lo.num, p.2.lo.num), (p.1.lo.den, p.2.lo.den), (p.1.hi.num, p.2.hi.num), (p.1.hi.den, p.2.hi.den)] ∧ p.1.lo.num.n ≤ maxLen ∧ p.1.lo.den.n ≤ maxLen ∧ p.1.hi.num.n ≤ maxLen ∧ p.1.hi.den.n ≤ maxLen := by
  obtain ⟨y0, y1, n, hx, _, h0, h1⟩ := trod_struct2 Tryz.underlying68 hf
  have k0 : DataW.trod enc Tryz.prog W 0 (fun _ => true) true n 56 [c0, c1, c2, c3] = some y0 := by simpa [Value.cells, Tryz.cells56] using h0
  have k1 : DataW.trod enc Tryz.prog W 0 (fun _ => true) true n 56 [c4, c5, c6, c7] = some y1 := by simpa [Value.cells, Tryz.cells56] using h1
  obtain ⟨p, ⟨rfl, rfl, rfl, rfl⟩, hp, s1, s2⟩ := open_ratc k0
  obtain ⟨q, ⟨rfl, rfl, rfl, rfl⟩, hq, t1, t2⟩ := open_ratc k1
  exact ⟨(⟨p.1, q.1⟩, ⟨p.2, q.2⟩), ⟨rfl, rfl, rfl, rfl, rfl, rfl, rfl, rfl⟩, AllSl.cons hp.head (AllSl.cons hp.tail.head hq), s1, s2, t1, t2⟩
theorem open_PS {H : Type} {enc : TypeId × Value → H} {W : World} {r : Reach} {b0 : Nat} {v : Value} {d : DataW H} {p : List MemPlace}
    (hv : Value.okWide Tryz.prog W r b0 53 v) (h : DataW.Trod enc Tryz.prog W 0 (fun _ => true) true 53 v d p) :
    ∃ (a : Option Addr) (n c : Nat) (l : List (SV × SD)), v = .slice a n c ∧ PSlS W a l ∧ l.length = n ∧ n ≤ maxLen ∧ ∀ p ∈ l, p.1.lo.num.n ≤ maxLen ∧ p.1.lo.den.n ≤ maxLen ∧ p.1.hi.num.n ≤ maxLen ∧ p.1.hi.den.n ≤ maxLen := by
  obtain ⟨a, n, c, rfl⟩ := okWide_slice Tryz.underlying53 hv
  obtain ⟨fuel, hf⟩ := h
  rcases Go.Deep.open_slice Tryz.underlying53 hf with ⟨hcs, _⟩ | ⟨a', len, cap, m, n', D, Pl, hcs, _, hl, hm, hmm, _, hx⟩
  · simp only [Value.cells, List.cons.injEq, Value.slice.injEq, and_true] at hcs
    obtain ⟨rfl, rfl, rfl⟩ := hcs
    exact ⟨none, 0, 0, [], rfl, ⟨.inl rfl, fun p hp => by cases hp⟩, rfl, Nat.zero_le _, fun p hp => by cases hp⟩
  · simp only [Value.cells, List.cons.injEq, Value.slice.injEq, and_true] at hcs
    obtain ⟨rfl, rfl, rfl⟩ := hcs
    simp only [if_true] at hmm
    subst hmm
    have each : ∀ i, i < n → ∃ p : SV × SD, (W.cell? ((a'.add (i * 8)).add 0) = some (.bool p.1.lo.num.g) ∧ W.cell? ((a'.add (i * 8)).add 1) = some (.slice p.1.lo.num.a p.1.lo.num.n p.1.lo.num.c) ∧ W.cell? ((a'.add (i * 8)).add 2) = some (.bool p.1.lo.den.g) ∧ W.cell? ((a'.add (i * 8)).add 3) = some (.slice p.1.lo.den.a p.1.lo.den.n p.1.lo.den.c) ∧ W.cell? ((a'.add (i * 8)).add 4) = some (.bool p.1.hi.num.g) ∧ W.cell? ((a'.add (i * 8)).add 5) = some (.slice p.1.hi.num.a p.1.hi.num.n p.1.hi.num.c) ∧ W.cell? ((a'.add (i * 8)).add 6) = some (.bool p.1.hi.den.g) ∧ W.cell? ((a'.add (i * 8)).add 7) = some (.slice p.1.hi.den.a p.1.hi.den.n p.1.hi.den.c)) ∧ AllSl W [(p.1.lo.num, p.2.lo.num), (p.1.lo.den, p.2.lo.den), (p.1.hi.num, p.2.hi.num), (p.1.hi.den, p.2.hi.den)] ∧ p.1.lo.num.n ≤ maxLen ∧ p.1.lo.den.n ≤ maxLen ∧ p.1.hi.num.n ≤ maxLen ∧ p.1.hi.den.n ≤ maxLen := by
      intro i hi
      obtain ⟨cs, h1, h2⟩ := hx i (by omega)
      rw [Tryz.cells68] at h1
      obtain ⟨_, h3, h4⟩ := World.cells?_some h1
      match cs, h3 with
      | [c0, c1, c2, c3, c4, c5, c6, c7], _ =>
        obtain ⟨p, ⟨rfl, rfl, rfl, rfl, rfl, rfl, rfl, rfl⟩, hp⟩ := open_spanc h2
        exact ⟨p, ⟨h4 0 (by omega), h4 1 (by omega), h4 2 (by omega), h4 3 (by omega), h4 4 (by omega), h4 5 (by omega), h4 6 (by omega), h4 7 (by omega)⟩, hp⟩
    have inh : Inhabited (SV × SD) := ⟨(⟨⟨⟨false, none, 0, 0⟩, ⟨false, none, 0, 0⟩⟩, ⟨⟨false, none, 0, 0⟩, ⟨false, none, 0, 0⟩⟩⟩, ⟨⟨⟨false, []⟩, ⟨false, []⟩⟩, ⟨⟨false, []⟩, ⟨false, []⟩⟩⟩)⟩
    obtain ⟨f, hf⟩ := Go.Deep.choose_lt each
    refine ⟨some a', n, m, (List.range n).map f, rfl, ⟨?_, ?_⟩, by simp, Nat.le_trans hl hm, ?_⟩
    · by_cases h0 : n = 0
      · subst h0; exact .inl rfl
      · obtain ⟨b, off, spot⟩ := a'
        have hc := (hf 0 (by omega)).1.1
        have hspot : spot = none := by simpa [Addr.add] using World.cell?_spot hc
        subst hspot
        refine .inr ⟨b, off, rfl, ?_, fun i hi => ?_⟩
        · have := World.block_lt_of_cell? _ _ hc
          rw [addr_add, addr_add] at this
          exact this
        · have hi' : i < n := by simpa using hi
          have h1 := (hf i hi').1
          rw [addr_add, addr_add, addr_add, addr_add, addr_add, addr_add, addr_add, addr_add, addr_add] at h1
          simpa using h1
    · intro p hp
      obtain ⟨i, hi, rfl⟩ := List.mem_map.1 hp
      exact (hf i (List.mem_range.1 hi)).2.1
    · intro p hp
      obtain ⟨i, hi, rfl⟩ := List.mem_map.1 hp
      exact (hf i (List.mem_range.1 hi)).2.2
end Go.Proofs.YthmpikagenodjaaGreat

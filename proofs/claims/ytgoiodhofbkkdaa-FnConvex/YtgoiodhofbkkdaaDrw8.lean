/- The draws of chapter 8's laws; two lists of points held against each other. No condition beyond those typed. Written by mkdrw8.py. -/
import Derived.Test.YtgoiodhofbkkdaaDr8
namespace Go.Proofs.Ytgoiodhofbkkdaa
open Go.RowKit
set_option linter.unusedVariables false
set_option maxRecDepth 100000
set_option linter.unusedSimpArgs false

def OutSM (w : World) (e : Ending) (w' : World) : Prop := ∃ p q r s : Int × Int, e = .returned (.tuple #[.agg #[.int .i64 p.1, .int .i64 p.2], .agg #[.int .i64 q.1, .int .i64 q.2], .agg #[.int .i64 r.1, .int .i64 r.2], .agg #[.int .i64 s.1, .int .i64 s.2]]) ∧ (Near p ∧ Near q ∧ Near r ∧ Near s) ∧ Below w.heap.size w w'
def OutGI (w : World) (e : Ending) (w' : World) : Prop := ∃ x y : Int, e = .returned (.tuple #[.int .i64 x, .int .i64 y]) ∧ (-100000 ≤ x ∧ x ≤ 100000 ∧ -100000 ≤ y ∧ y ≤ 100000) ∧ Below w.heap.size w w'
theorem ints_at (w : World) (zs : List Int) : ∀ i, i < zs.length → (w.alloc (.cells (zs.map (Value.int .i64)).toArray 3)).cell? ⟨w.heap.size, 0 + i, none⟩ = some (.int .i64 (zs.getD i 0)) := by
  intro i hi
  rw [Nat.zero_add, List.getD_eq_getElem?_getD, List.getElem?_eq_getElem hi]
  simp [go_sem, hi]
def OutWP (w : World) (e : Ending) (w' : World) : Prop := ∃ (a : Option Addr) (n c : Nat) (l : List (Int × Int)) (q : Int × Int), e = .returned (.tuple #[.slice a n c, .agg #[.int .i64 q.1, .int .i64 q.2]]) ∧ ArP w' a n c l ∧ (∀ p ∈ l, Near p) ∧ n ≤ 20 ∧ Near q ∧ Below w.heap.size w w'
def OutWy (w : World) (e : Ending) (w' : World) : Prop := ∃ (a : Option Addr) (n c : Nat) (l : List (Int × Int)), e = .returned (.slice a n c) ∧ ArP w' a n c l ∧ (∀ p ∈ l, Near p) ∧ n ≤ 20 ∧ Below w.heap.size w w'
theorem ar_but8 {w w' : World} {C n c : Nat} {a : Option Addr} {l : List (Int × Int)} (h : ArP w a n c l) (hb : But C (C + 1) w w') (hG : ∃ G, a = some ⟨G, 0, none⟩ ∧ C < G) : ArP w' a n c l := by
  refine ⟨?_, h.len, h.cap, h.top⟩
  obtain ⟨G, rfl, hC⟩ := hG
  rcases h.sl with h | ⟨b, off, e, h1, h2⟩
  · exact .inl h
  · simp only [Option.some.injEq, Addr.mk.injEq, and_true] at e
    obtain ⟨rfl, rfl⟩ := e
    exact .inr ⟨G, 0, rfl, Nat.lt_of_lt_of_le h1 hb.size, fun i hi => ⟨hb.cell (h2 i hi).1 (.inr (by omega)), hb.cell (h2 i hi).2 (.inr (by omega))⟩⟩
set_option maxHeartbeats 4000000 in
theorem samePts_v (a a' : Option Addr) (n c c' : Nat) (l : List (Int × Int)) (w : World) (h : SlP w a l) (h' : SlP w a' l) (hn : l.length = n) (hm : n ≤ 1048576) :
    Calls Try.prog 17 #[.slice a n c, .slice a' n c'] w fun e w' => e = .returned (.bool true) ∧ Below w.heap.size w w' := by
  have HS := hide h
  have HS' := hide h'
  have HN := hide hn
  have nn : ((n : Int) != (n : Int)) = false := by simp
  clear h hn h'
  go_enter Try.func17, Try.ntmps17
  go_wp2
  go_loopw [13] (fun iv wr => ∃ (i : Nat), i ≤ n ∧ iv = .int .i64 i ∧ Hid (Below w.heap.size w wr)) (fun iv _ => n - (intOf iv).toNat)
  case atStart => exact ⟨0, Nat.zero_le _, rfl, hide (Below.refl _ _)⟩
  case round =>
    obtain ⟨i, hi, rfl, HB⟩ := hrel
    by_cases hlt : i < n
    · have hlt' : (i : Int) < (n : Int) := by omega
      rcases (unhide HS) with e | ⟨b, off, rfl, hb, hc⟩
      · exact absurd (unhide HN) (by rw [e]; simp; omega)
      have e0 := hc i (by rw [unhide HN]; exact hlt)
      rcases (unhide HS') with e | ⟨b', off', rfl, hb', hc'⟩
      · exact absurd (unhide HN) (by rw [e]; simp; omega)
      have f0 := hc' i (by rw [unhide HN]; exact hlt)
      obtain ⟨y, hy⟩ : ∃ y, y = l[i]'(by rw [unhide HN]; exact hlt) := ⟨_, rfl⟩
      rw [← hy] at e0 f0
      clear hy hc hc'
      have E0 : wr.cell? ⟨b, off + i * 2, none⟩ = some (.int .i64 y.1) := ((unhide HB).cell (p := ⟨b, off + i * 2, none⟩) hb).trans (e0.1)
      have E1 : wr.cell? ⟨b, off + i * 2 + 1, none⟩ = some (.int .i64 y.2) := ((unhide HB).cell (p := ⟨b, off + i * 2 + 1, none⟩) hb).trans (e0.2)
      have F0 : wr.cell? ⟨b', off' + i * 2, none⟩ = some (.int .i64 y.1) := ((unhide HB).cell (p := ⟨b', off' + i * 2, none⟩) hb').trans (f0.1)
      have F1 : wr.cell? ⟨b', off' + i * 2 + 1, none⟩ = some (.int .i64 y.2) := ((unhide HB).cell (p := ⟨b', off' + i * 2 + 1, none⟩) hb').trans (f0.2)
      have q1 : (y.1 == y.1) = true := by simp
      have q2 : (y.2 == y.2) = true := by simp
      clear e0 f0
      go_upto_region 6 with fail
      go_region
      clear E0 F0 E1 F1
      go_wp2
      go_roundw
      case rel => exact ⟨i + 1, by omega, by go_num, hide (unhide HB).drew⟩
      case measure => simp [intOf]; omega
    · obtain rfl : i = n := by omega
      go_wp2
      go_ret
      exact ⟨rfl, unhide HB⟩
end Go.Proofs.Ytgoiodhofbkkdaa

/- Marks: the laws' markIntS, heldIntS, markBig and heldBig write marks into a row of the law's own, and find them there. No condition beyond those typed. -/
import Derived.Test.YtdgonpbponnnaaaSgs
namespace Go.Proofs.Ytdgonpbponnnaaa
open Go.RowKit
set_option linter.unusedVariables false
set_option maxRecDepth 100000
set_option linter.unusedSimpArgs false

def marks (k : Int) (n : Nat) : List Int := (List.range n).map (fun (i : Nat) => k + (i : Int))
theorem marks_len (k : Int) (n : Nat) : (marks k n).length = n := by simp [marks]
theorem marks_get (k : Int) (n i : Nat) (h : i < n) : (marks k n).getD i 0 = k + (i : Int) := by simp [marks, h]

/-- The slice at a is the law's own, at a block from lo to below hi. -/
def Own2 (lo hi : Nat) (w : World) (a : Option Addr) (zs : List Int) : Prop :=
  zs = [] ∨ ∃ b cur, a = some ⟨b, 0, none⟩ ∧ lo ≤ b ∧ b < hi ∧ w.heap[b]? = some (.cells cur 3 (0, 0)) ∧ ∀ i, i < zs.length → cur[i]? = some (.int .i64 (zs.getD i 0))
theorem Own.two {lo : Nat} {w : World} {a : Option Addr} {zs : List Int} (h : Own lo w a zs) : Own2 lo w.heap.size w a zs := by
  rcases h with h | ⟨b, cur, rfl, h1, hg, hc⟩
  · exact .inl h
  · exact .inr ⟨b, cur, rfl, h1, (Array.getElem?_eq_some_iff.1 hg).1, hg, hc⟩
theorem Own2.own {lo hi : Nat} {w : World} {a : Option Addr} {zs : List Int} (h : Own2 lo hi w a zs) : Own lo w a zs := by
  rcases h with h | ⟨b, cur, rfl, h1, _, hg, hc⟩
  · exact .inl h
  · exact .inr ⟨b, cur, rfl, h1, hg, hc⟩
theorem Own2.sl {lo hi : Nat} {w : World} {a : Option Addr} {zs : List Int} (h : Own2 lo hi w a zs) : Sl w a zs := h.own.sl
theorem Own2.later {lo hi : Nat} {w w' : World} {a : Option Addr} {zs : List Int} (h : Own2 lo hi w a zs) (hb : Below w.heap.size w w') : Own2 lo hi w' a zs := by
  rcases h with h | ⟨b, cur, rfl, h1, h2, hg, hc⟩
  · exact .inl h
  · exact .inr ⟨b, cur, rfl, h1, h2, by rw [hb.block b (Array.getElem?_eq_some_iff.1 hg).1]; exact hg, hc⟩

/-- From w to w' only blocks from lo to below hi, and new ones, may have turned. -/
structure But (lo hi : Nat) (w w' : World) : Prop where
  os : w'.os = w.os
  tape : w'.tape = w.tape
  output : w'.output = w.output
  size : w.heap.size ≤ w'.heap.size
  block : ∀ k, k < w.heap.size → (k < lo ∨ hi ≤ k) → w'.heap[k]? = w.heap[k]?
theorem But.refl (lo hi : Nat) (w : World) : But lo hi w w := ⟨rfl, rfl, rfl, Nat.le_refl _, fun _ _ _ => rfl⟩
theorem But.trans {lo hi : Nat} {a b c : World} (h : But lo hi a b) (k : But lo hi b c) : But lo hi a c :=
  ⟨k.os.trans h.os, k.tape.trans h.tape, k.output.trans h.output, Nat.le_trans h.size k.size, fun i hi' hj => (k.block i (by have := h.size; omega) hj).trans (h.block i hi' hj)⟩
theorem But.of_below {lo hi : Nat} {w w' : World} (h : Below w.heap.size w w') : But lo hi w w' := ⟨h.os, h.tape, h.output, h.size, fun k hk _ => h.block k hk⟩
theorem But.set {lo hi : Nat} {w w' : World} (h : But lo hi w w') {p : Addr} (h1 : lo ≤ p.block) (h2 : p.block < hi) (v : Value) : But lo hi w (w'.setCell p v) :=
  h.trans ⟨rfl, rfl, rfl, by simp [World.setCell], fun k _ hj => Below.heap_setCell _ _ _ _ (by omega)⟩
theorem But.below {lo hi B : Nat} {a w w' : World} (h : But lo hi w w') (hb : Below B a w) (hB : B ≤ lo) (hs : B ≤ w.heap.size) : Below B a w' :=
  ⟨h.os.trans hb.os, h.tape.trans hb.tape, h.output.trans hb.output, Nat.le_trans hb.size h.size, fun k hk => (h.block k (by omega) (by omega)).trans (hb.block k hk)⟩
theorem But.cell {lo hi : Nat} {w w' : World} (h : But lo hi w w') {b o : Nat} {v : Value} (hc : w.cell? ⟨b, o, none⟩ = some v) (hb : b < lo ∨ hi ≤ b) : w'.cell? ⟨b, o, none⟩ = some v := by
  rw [← hc]
  exact World.cell?_of_block (w := w) (h.block b (World.block_lt_of_cell? _ _ hc) hb)
theorem Own2.but {lo hi lo' hi' : Nat} {w w' : World} {a : Option Addr} {zs : List Int} (h : Own2 lo hi w a zs) (hb : But lo' hi' w w') (hd : hi ≤ lo' ∨ hi' ≤ lo) : Own2 lo hi w' a zs := by
  rcases h with h | ⟨b, cur, rfl, h1, h2, hg, hc⟩
  · exact .inl h
  · exact .inr ⟨b, cur, rfl, h1, h2, by rw [hb.block b (Array.getElem?_eq_some_iff.1 hg).1 (by omega)]; exact hg, hc⟩
theorem Sl.but {lo hi : Nat} {w w0 w' : World} {a : Option Addr} {xs : List Int} (h : Sl w0 a xs) (h0 : Below w0.heap.size w0 w) (hb : But lo hi w w') (hd : w0.heap.size ≤ lo) : Sl w' a xs := by
  have := hb.below h0 hd h0.size
  exact h.later (Nat.le_refl _) this

set_option maxHeartbeats 1000000 in
theorem markI_nil (a : Option Addr) (c : Nat) (k : Int) (w : World) :
    Calls Try.prog 19 #[.slice a 0 c, .int .i64 k] w fun e w' => e = .returned (.int .i64 k) ∧ w' = w := by
  go_enter Try.func19, Try.ntmps19
  go_wp2
  refine wp_loop_rounds 1 ?_
  rw [rounds_succ]
  go_wp2
  go_ret
  exact ⟨rfl, rfl⟩
set_option maxHeartbeats 1000000 in
theorem markI_cons (b n c : Nat) (k : Int) (cur : Array Value) (w : World) (hg : w.heap[b]? = some (.cells cur 3 (0, 0))) (hn : ∀ i, i < n → ∃ x, cur[i]? = some (.int .i64 x)) (h1 : n ≤ 1048576) (k0 : 0 ≤ k) (k1 : k ≤ 4000000) :
    Calls Try.prog 19 #[.slice (some ⟨b, 0, none⟩) n c, .int .i64 k] w fun e w' => e = .returned (.int .i64 (k + n)) ∧ But b (b + 1) w w' ∧ ∃ cur', w'.heap[b]? = some (.cells cur' 3 (0, 0)) ∧ ∀ i, i < n → cur'[i]? = some (.int .i64 (k + i)) := by
  have HG := hide hg
  have HN := hide hn
  clear hg hn
  go_enter Try.func19, Try.ntmps19
  go_wp2
  go_loopw [1, 5] (fun kv i wr => ∃ (j : Nat) (cur' : Array Value), j ≤ n ∧ i = .int .i64 j ∧ kv = .int .i64 (k + j) ∧ Hid (wr.heap[b]? = some (.cells cur' 3 (0, 0))) ∧ Hid (∀ i, i < j → cur'[i]? = some (.int .i64 (k + i))) ∧ Hid (∀ i, i < n → ∃ x, cur'[i]? = some (.int .i64 x)) ∧ Hid (But b (b + 1) w wr)) (fun _ i _ => n - (intOf i).toNat)
  case atStart => exact ⟨0, cur, Nat.zero_le _, rfl, by simp, HG, hide (fun i hi => absurd hi (Nat.not_lt_zero _)), HN, hide (But.refl _ _ _)⟩
  case round =>
    obtain ⟨j, cur', hj, rfl, rfl, HR, HM, HE, HB⟩ := hrel
    by_cases hlt : j < n
    · obtain ⟨x, hx⟩ := unhide HE j hlt
      have hc : wr.cell? ⟨b, j, none⟩ = some (.int .i64 x) := by rw [cell_of_row wr b j cur' 3 (0, 0) (unhide HR)]; exact hx
      have hf : wr.frozen? ⟨b, j, none⟩ = false := frozen_of_row wr b j cur' 3 (unhide HR)
      have hlt' : (j : Int) < (n : Int) := by omega
      have HR2 := hide (heap_setCell_same wr b j cur' 3 (.int .i64 (k + j)) (unhide HR))
      have HB2 := hide ((unhide HB).set (p := ⟨b, j, none⟩) (Nat.le_refl _) (Nat.lt_succ_self _) (.int .i64 (k + j)))
      have hjs : j < cur'.size := (Array.getElem?_eq_some_iff.1 hx).1
      have HM2 : Hid (∀ i, i < j + 1 → (cur'.setIfInBounds j (.int .i64 (k + j)))[i]? = some (.int .i64 (k + i))) := hide (by
        intro i hi
        by_cases e : i = j
        · subst e; simp [hjs]
        · rw [Array.getElem?_setIfInBounds_ne (by omega)]; exact unhide HM i (by omega))
      have HE2 : Hid (∀ i, i < n → ∃ x, (cur'.setIfInBounds j (.int .i64 (k + j)))[i]? = some (.int .i64 x)) := hide (by
        intro i hi
        by_cases e : i = j
        · subst e; exact ⟨k + i, by simp [hjs]⟩
        · rw [Array.getElem?_setIfInBounds_ne (by omega)]; exact unhide HE i hi)
      clear hx HM HE HR
      go_wp2
      go_roundw
      case rel => exact ⟨j + 1, _, by omega, by go_num, by go_num, HR2, HM2, HE2, HB2⟩
      case measure => simp [intOf]; omega
    · obtain rfl : j = n := by omega
      go_wp2
      go_ret
      exact ⟨rfl, unhide HB, cur', unhide HR, unhide HM⟩
theorem mark_own (a : Option Addr) (n c : Nat) (zs : List Int) (k : Int) (lo hi : Nat) (w : World) (ho : Own2 lo hi w a zs) (hn : zs.length = n) (h1 : n ≤ 1048576) (k0 : 0 ≤ k) (k1 : k ≤ 4000000) :
    Calls Try.prog 19 #[.slice a n c, .int .i64 k] w fun e w' => e = .returned (.int .i64 (k + n)) ∧ But lo hi w w' ∧ Own2 lo hi w' a (marks k n) := by
  rcases ho with rfl | ⟨b, cur, rfl, b1, b2, hg, hc⟩
  · simp only [List.length_nil] at hn
    subst hn
    refine (markI_nil a c k w).mono ?_
    rintro e w' ⟨rfl, rfl⟩
    exact ⟨by simp, But.refl _ _ _, .inl rfl⟩
  · refine (markI_cons b n c k cur w hg (fun i hi => ⟨_, hc i (by omega)⟩) h1 k0 k1).mono ?_
    rintro e w' ⟨rfl, hb, cur', hg', hm⟩
    refine ⟨rfl, ⟨hb.os, hb.tape, hb.output, hb.size, fun q hq hd => hb.block q hq (by omega)⟩, .inr ⟨b, cur', rfl, b1, b2, hg', fun i hi => ?_⟩⟩
    rw [marks_len] at hi
    rw [marks_get k n i hi]
    exact hm i hi

set_option maxHeartbeats 1000000 in
theorem heldI_any (a : Option Addr) (n c : Nat) (k : Int) (w : World) (hs : Sl w a (marks k n)) (h1 : n ≤ 1048576) (k0 : 0 ≤ k) (k1 : k ≤ 4000000) :
    Calls Try.prog 20 #[.slice a n c, .int .i64 k] w fun e w' => e = .returned (.int .i64 (k + n)) ∧ w' = w := by
  have HS := hide hs
  clear hs
  go_enter Try.func20, Try.ntmps20
  go_wp2
  go_loop [1, 5] (fun kv i => ∃ j : Nat, j ≤ n ∧ i = .int .i64 j ∧ kv = .int .i64 (k + j)) (fun _ i => n - (intOf i).toNat)
  case atStart => exact ⟨0, Nat.zero_le _, rfl, by simp⟩
  case round =>
    obtain ⟨j, hj, rfl, rfl⟩ := hrel
    by_cases hlt : j < n
    · obtain ⟨b, off, rfl, hc⟩ := (unhide HS).at (k := j) (by rw [marks_len]; exact hlt)
      rw [marks_get k n j hlt] at hc
      have hlt' : (j : Int) < (n : Int) := by omega
      go_wp2
      go_round
      case rel => exact ⟨j + 1, by omega, by go_num, by go_num⟩
      case measure => simp [intOf]; omega
    · obtain rfl : j = n := by omega
      go_wp2
      go_ret
      exact ⟨rfl, rfl⟩

set_option maxHeartbeats 1000000 in
theorem markB_own (g : Bool) (a : Option Addr) (n c : Nat) (zs : List Int) (k : Int) (lo hi : Nat) (w : World) (ho : Own2 lo hi w a zs) (hn : zs.length = n) (h1 : n ≤ 1048576) (k0 : 0 ≤ k) (k1 : k ≤ 4000000) :
    Calls Try.prog 7 #[.agg #[.bool g, .slice a n c], .int .i64 k] w fun e w' => e = .returned (.int .i64 (k + n)) ∧ But lo hi w w' ∧ Own2 lo hi w' a (marks k n) := by
  have HO := hide ho
  have HN := hide hn
  clear ho hn
  have HB := hide (show ∀ o, Below w.heap.size w (w.alloc o) from fun o => (Below.refl _ _).alloc (Nat.le_refl _) _)
  go_enter Try.func7, Try.ntmps7
  go_wp2_with fail
  refine (mark_own a n c zs k lo hi _ ((unhide HO).later (unhide HB _)) (unhide HN) h1 k0 k1).mono ?_
  rintro e w1 ⟨rfl, hb, ho⟩
  have HF := hide (And.intro ((But.of_below (unhide HB _)).trans hb) ho)
  clear hb ho
  go_wp2
  go_ret
  exact ⟨rfl, (unhide HF).1, (unhide HF).2⟩
set_option maxHeartbeats 1000000 in
theorem heldB_any (g : Bool) (a : Option Addr) (n c : Nat) (k : Int) (w : World) (hs : Sl w a (marks k n)) (h1 : n ≤ 1048576) (k0 : 0 ≤ k) (k1 : k ≤ 4000000) :
    Calls Try.prog 8 #[.agg #[.bool g, .slice a n c], .int .i64 k] w fun e w' => e = .returned (.int .i64 (k + n)) ∧ Below w.heap.size w w' := by
  have HS := hide hs
  clear hs
  have hk : ¬ (k + (n : Int) < 0) := by omega
  have HB := hide (show ∀ o, Below w.heap.size w (w.alloc o) from fun o => (Below.refl _ _).alloc (Nat.le_refl _) _)
  go_enter Try.func8, Try.ntmps8
  go_wp2_with fail
  refine (heldI_any a n c k _ ((unhide HS).later (Nat.le_refl _) (unhide HB _)) h1 k0 k1).mono ?_
  rintro e w1 ⟨rfl, rfl⟩
  go_wp2
  go_ret
  exact ⟨rfl, unhide HB _⟩
end Go.Proofs.Ytdgonpbponnnaaa

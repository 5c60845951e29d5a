/- Numbers as they are drawn: whatever the bytes, the draw ends, and what it draws is a number's cells in new memory. No condition beyond those typed. -/
import Derived.Deep.RegionLaw
import Derived.Deep.AppendLies
import Derived.Test.YtdgonpbponnnaaaGreatDoorCurY
import Derived.Test.YtdgonpbponnnaaaGreatDoorAddS
import Derived.Test.YtdgonpbponnnaaaGreatDoorDivK
import Derived.Test.YtdgonpbponnnaaaGreatDoorVarB
namespace Go.Proofs.YtdgonpbponnnaaaGreatDoor
open Go.RowKit
set_option linter.unusedVariables false
set_option maxRecDepth 100000
set_option linter.unusedSimpArgs false

theorem owns_set {w : World} {base n : Nat} {v u : Value} {p : Addr} {xs : List Value} (h : w.ownsRow base 3 1 v n xs) (hp : p.block < base) : (w.setCell p u).ownsRow base 3 1 v n xs := by
  refine ⟨h.1, ?_⟩
  rcases h.2 with h | ⟨g, cap, cur, e, hb, hg, h1⟩
  · exact .inl h
  · exact .inr ⟨g, cap, cur, e, hb, by rw [Below.heap_setCell _ _ _ _ (by omega)]; exact hg, h1⟩
theorem owns_wide {w : World} {base base' n : Nat} {v : Value} {xs : List Value} (h : w.ownsRow base 3 1 v n xs) (hb : base' ≤ base) : w.ownsRow base' 3 1 v n xs := by
  refine ⟨h.1, ?_⟩
  rcases h.2 with h | ⟨g, cap, cur, e, hg, h1⟩
  · exact .inl h
  · exact .inr ⟨g, cap, cur, e, by omega, h1⟩
theorem owns_keep {w w' : World} {base C n : Nat} {v : Value} {xs : List Value} (h : w.ownsRow base 3 1 v n xs) (hb : But C (C + 1) w w') (hC : C < base) : w'.ownsRow base 3 1 v n xs := by
  refine ⟨h.1, ?_⟩
  rcases h.2 with h | ⟨g, cap, cur, e, hg, h0, h1⟩
  · exact .inl h
  · refine .inr ⟨g, cap, cur, e, hg, ?_, h1⟩
    rw [hb.block g (by rw [Array.getElem?_eq_some_iff] at h0; exact h0.1) (by omega)]
    exact h0
set_option maxHeartbeats 1000000 in
theorem cutR_cons (b off n c : Nat) (xs : List Int) (w : World) (hn : xs.length = n) (h1 : n ≤ 1048576) (hnc : n ≤ c) (hcm : c ≤ maxLen) (hb : 0 < n → b < w.heap.size)
    (hc : ∀ i, i < n → w.cell? ⟨b, off + i, none⟩ = some (.int .i64 (xs.getD i 0))) :
    Calls Tryz.prog 80 #[.slice (some ⟨b, off, none⟩) n c] w fun e w' => ∃ a' n' c', e = .returned (.slice a' n' c') ∧ Below w.heap.size w w' ∧ w'.ownsRow w.heap.size 3 1 (.slice a' n' c') n' ((trim xs).map (Value.int .i64)) ∧ (trim xs).length = n' := by
  obtain ⟨i0, hi, hz0, hz1, hz2⟩ := info_parts Tryz.info3
  unfold maxLen at hcm
  have HN := hide hn
  have HC := hide hc
  clear hn hc
  go_enter Tryz.func80, Tryz.ntmps80
  go_wp2
  go_loop [0] (fun v => ∃ k : Nat, k ≤ n ∧ v = .slice (some ⟨b, off, none⟩) k c ∧ Hid (trim xs = trim (xs.take k))) (fun v => lenOf v)
  case atStart => exact ⟨n, Nat.le_refl _, rfl, hide (by rw [List.take_of_length_le (by rw [unhide HN]; exact Nat.le_refl _)])⟩
  case round =>
    obtain ⟨k, hk, rfl, HK⟩ := hrel
    cases k with
    | zero =>
      have hd : decide ((0 : Int) < 0) = false := by simp
      go_wp2_with (at_builtin; refine wpList_append_own _ rfl (.tmp 20) (.tmp 21) 23 rfl w.heap.size 3 i0 (.int .i64 0) 1 8 Tryz.underlying23 hi hz0 hz1 hz2 rfl (by decide) _ _ _ rfl (owns_empty w) ⟨b, off, none⟩ 0 c [] rfl rfl (fun j u h => by simp at h) (fun u h => by cases h) (by unfold maxLen; omega) (by omega) (by simp) ?_)
      intro v' w1 hown hg _
      obtain ⟨a', c', rfl, q2, q3⟩ := owns_shape (zs := []) hown rfl
      have OW := hide hown
      have hB := hide (below_alloc_grown hg (fun k e => by simp [Value.ownBlock] at e; omega))
      clear hown hg
      go_wp2
      go_ret
      have e : trim xs = [] := by rw [unhide HK]; rfl
      rw [e]
      exact ⟨a', _, c', rfl, unhide hB, unhide OW, rfl⟩
    | succ j =>
      have hcx := unhide HC j (by omega)
      have hts := hide (take_succ' (xs := xs) (k := j) (by rw [unhide HN]; omega))
      generalize xs.getD j 0 = x at hcx hts
      have hd : decide ((0 : Int) < (j : Int) + 1) = true := by rw [decide_eq_true_eq]; omega
      have i1 : (0 : Int) ≤ (j : Int) + 1 - 1 := by omega
      have i2 : (j : Int) + 1 - 1 < (n : Int) := by omega
      by_cases hx : x = 0
      · subst hx
        go_wp2
        go_round
        case rel => exact ⟨j, by omega, rfl, hide (by rw [unhide HK, unhide hts, trim_snoc_zero])⟩
        case measure => simp [lenOf]
      · have hx' : (x == 0) = false := by simp [hx]
        have hz : ((j : Int) + 1 == 0) = false := by simp; omega
        obtain ⟨ts, TS⟩ : ∃ ts, Hid (xs.take (j + 1) = ts) := ⟨_, hide rfl⟩
        have hcells : Hid (∀ q u, (ts.map (Value.int .i64))[q]? = some u → (w.alloc (.cells #[] 3)).cell? ((⟨b, off, none⟩ : Addr).add q) = some u) := by
          rw [← unhide TS]
          exact hide (cells_at (k := j + 1) (xs := xs) (fun i hi => by
            rw [← unhide HC i (by omega)]; exact ((Below.refl _ _).alloc (Nat.le_refl _) _).cell (by exact hb (by omega))) (by rw [unhide HN]; omega))
        have HL : Hid (ts.length = j + 1) := hide (by rw [← unhide TS]; simp; rw [unhide HN]; omega)
        have hlen := hide (show (ts.map (Value.int .i64)).length = (j + 1) * 1 by simp; rw [unhide HL])
        go_wp2_with (at_builtin; refine wpList_append_own _ rfl (.tmp 20) (.tmp 21) 23 rfl w.heap.size 3 i0 (.int .i64 0) 1 8 Tryz.underlying23 hi hz0 hz1 hz2 rfl (by decide) _ _ _ rfl (owns_empty w) ⟨b, off, none⟩ (j + 1) c (ts.map (Value.int .i64)) rfl (unhide hlen) (unhide hcells) (one_cells _) (by unfold maxLen; omega) (by omega) (by simp) ?_)
        intro v' w1 hown hg _
        have HE : Hid (trim xs = ts) := hide (by rw [unhide HK, unhide hts, trim_snoc_ne _ hx, ← unhide hts, unhide TS])
        obtain ⟨a', c', rfl, q2, q3⟩ := owns_shape (zs := ts) hown (unhide HL)
        have OW := hide hown
        have hB := hide (below_alloc_grown hg (fun k e => by simp [Value.ownBlock] at e; omega))
        clear hown hg
        go_wp2
        go_ret
        rw [unhide HE]
        exact ⟨a', _, c', rfl, unhide hB, unhide OW, unhide HL⟩

set_option maxHeartbeats 1000000 in
theorem cutR_none (w : World) :
    Calls Tryz.prog 80 #[.slice none 0 0] w fun e w' => e = .returned (.slice (some ⟨w.heap.size, 0, none⟩) 0 0) ∧ Below w.heap.size w w' ∧ w'.ownsRow w.heap.size 3 1 (.slice (some ⟨w.heap.size, 0, none⟩) 0 0) 0 [] := by
  obtain ⟨i0, hi, hz0, hz1, hz2⟩ := info_parts Tryz.info3
  have hd : decide ((0 : Int) < 0) = false := by simp
  go_enter Tryz.func80, Tryz.ntmps80
  go_wp2
  refine wp_loop_rounds 1 ?_
  rw [rounds_succ]
  go_wp2_with (at_builtin; refine wpList_append_own_none rfl (.tmp 20) (.tmp 21) 23 rfl w.heap.size 3 i0 1 Tryz.underlying23 hi _ _ _ rfl (owns_empty w) rfl ?_)
  go_wp2
  go_ret
  exact ⟨rfl, (Below.refl _ _).alloc (Nat.le_refl _) _, owns_empty w⟩

theorem cutR_any (a : Option Addr) (n c : Nat) (xs : List Int) (w : World) (hx : Arg w a n c xs) (h1 : n ≤ 1048576) :
    Calls Tryz.prog 80 #[.slice a n c] w fun e w' => ∃ a' n' c', e = .returned (.slice a' n' c') ∧ Below w.heap.size w w' ∧ w'.ownsRow w.heap.size 3 1 (.slice a' n' c') n' ((trim xs).map (Value.int .i64)) ∧ (trim xs).length = n' := by
  obtain ⟨hs, hn, hnc, hcm, had⟩ := hx
  rcases had with ⟨rfl, rfl⟩ | ⟨b, off, rfl⟩
  · obtain rfl : n = 0 := by omega
    obtain rfl := List.length_eq_zero_iff.1 hn
    refine (cutR_none w).mono ?_
    rintro e w' ⟨rfl, hb, ho⟩
    exact ⟨_, _, _, rfl, hb, ho, rfl⟩
  · rcases hs with rfl | ⟨b', off', e, hb, hc⟩
    · simp only [List.length_nil] at hn
      subst hn
      exact cutR_cons b off 0 c [] w rfl h1 hnc hcm (fun h => absurd h (Nat.lt_irrefl _)) (fun i hi => absurd hi (Nat.not_lt_zero _))
    · simp only [Option.some.injEq, Addr.mk.injEq, and_true] at e
      obtain ⟨rfl, rfl⟩ := e
      exact cutR_cons b off n c xs w hn h1 hnc hcm (fun _ => hb) (by rw [← hn]; exact hc)

set_option maxHeartbeats 1000000 in
theorem makeR_any (g : Bool) (a : Option Addr) (n c : Nat) (xs : List Int) (w : World) (hx : Arg w a n c xs) (h1 : n ≤ 1048576) :
    Calls Tryz.prog 67 #[.bool g, .slice a n c] w fun e w' => ∃ a' n' c', e = .returned (.agg #[.bool (sgn g (trim xs)), .slice a' n' c']) ∧ Below w.heap.size w w' ∧ w'.ownsRow w.heap.size 3 1 (.slice a' n' c') n' ((trim xs).map (Value.int .i64)) ∧ (trim xs).length = n' := by
  have HX := hide hx
  clear hx
  go_enter Tryz.func67, Tryz.ntmps67
  go_wp2_with fail
  have HB := hide (show ∀ o, Below w.heap.size w (w.alloc o) from fun o => (Below.refl _ _).alloc (Nat.le_refl _) _)
  refine (cutR_any a n c xs _ ((unhide HX).later (unhide HB _)) h1).mono ?_
  rintro e w1 ⟨a', k, c', rfl, hb, hown, harg⟩
  have z0 : w1.cell? ⟨w.heap.size, 0, none⟩ = some (.bool false) := cell_later hb (by simp [go_sem])
  have z1 : w1.cell? ⟨w.heap.size, 1, none⟩ = some (.slice none 0 0) := cell_later hb (by simp [go_sem])
  have f0 : ∀ o, w1.frozen? ⟨w.heap.size, o, none⟩ = false := fun o => by rw [(bcell hb).2 _ _ (by simp)]; simp [go_sem]
  have hlt : w.heap.size < w1.heap.size := by have := hb.size; simp at this; omega
  have hk := hide harg
  have fin : Hid (∀ v v', Below w.heap.size w ((w1.setCell ⟨w.heap.size, 0, none⟩ v).setCell ⟨w.heap.size, 1, none⟩ v') ∧ ((w1.setCell ⟨w.heap.size, 0, none⟩ v).setCell ⟨w.heap.size, 1, none⟩ v').ownsRow w.heap.size 3 1 (.slice a' k c') k ((trim xs).map (Value.int .i64)) ∧ (trim xs).length = k) := by
    refine hide fun v v' => ?_
    have hB : Below w.heap.size w w1 := ((Below.refl _ _).alloc (Nat.le_refl _) _).trans (hb.mono (by simp))
    exact ⟨(hB.setCell (Nat.le_refl _) _).setCell (Nat.le_refl _) _, owns_wide (owns_set (p := ⟨w.heap.size, 1, none⟩) (owns_set (p := ⟨w.heap.size, 0, none⟩) hown (by simp)) (by simp)) (by simp), harg⟩
  clear hb hown harg
  cases g
  · go_wp2
    refine bodyPost_ret (v := .agg #[.bool false, .slice a' k c']) (by simp [results, Tryz.results67, go_sem, z0, z1, hlt]) rfl ⟨a', k, c', rfl, ?_⟩
    exact unhide fin _ _
  · by_cases h0 : k = 0
    · subst h0
      go_wp2
      refine bodyPost_ret (v := .agg #[.bool false, .slice a' 0 c']) (by simp [results, Tryz.results67, go_sem, z0, z1, hlt]) rfl ⟨a', 0, c', ?_, ?_⟩
      · rw [List.length_eq_zero_iff.1 (unhide hk), sgn_nil]
      · exact unhide fin _ _
    · have hp : 0 < k := by omega
      go_wp2
      refine bodyPost_ret (v := .agg #[.bool true, .slice a' k c']) (by simp [results, Tryz.results67, go_sem, z0, z1, hlt, hp]) rfl ⟨a', k, c', ?_, ?_⟩
      · rw [sgn_cons (by rw [unhide hk]; exact hp)]
      · exact unhide fin _ _
theorem But.fz {lo hi : Nat} {w w' : World} (h : But lo hi w w') {b o : Nat} {x : Bool} (hc : w.frozen? ⟨b, o, none⟩ = x) (h0 : b < w.heap.size) (hb : b < lo ∨ hi ≤ b) : w'.frozen? ⟨b, o, none⟩ = x := (World.frozen?_of_block (a := ⟨b, o, none⟩) (h.block b h0 hb)).trans hc
/-- A number's box that a draw fills, as it is at first. -/
structure Zb (w : World) (G : Nat) : Prop where
  c0 : w.cell? ⟨G, 0, none⟩ = some (.bool false)
  c1 : w.cell? ⟨G, 1, none⟩ = some (.slice none 0 0)
  fz : ∀ o, w.frozen? ⟨G, o, none⟩ = false
theorem Zb.new {w : World} {t : TypeId} : Zb (w.alloc (.cells #[.bool false, .slice none 0 0] t)) w.heap.size := ⟨by simp [go_sem], by simp [go_sem], fun o => by simp [go_sem]⟩
theorem Zb.keep {w w' : World} {G lo hi : Nat} (h : Zb w G) (hb : But lo hi w w') (hg : G < lo ∨ hi ≤ G) : Zb w' G := ⟨hb.cell h.c0 hg, hb.cell h.c1 hg, fun o => hb.fz (h.fz o) (World.block_lt_of_cell? _ _ h.c0) hg⟩
theorem Zb.later {w w' : World} {G : Nat} (h : Zb w G) (hb : Below w.heap.size w w') : Zb w' G := h.keep (But.of_below (lo := G + 1) (hi := G + 1) hb) (.inl (Nat.lt_succ_self _))
theorem al_but {w : World} {lo hi : Nat} (o : Obj) : But lo hi w (w.alloc o) := But.of_below ((Below.refl _ _).alloc (Nat.le_refl _) o)
theorem cells6 (w : World) (a b c d e f : Int) : ∀ i, i < 6 → (w.alloc (.cells #[.int .i64 a, .int .i64 b, .int .i64 c, .int .i64 d, .int .i64 e, .int .i64 f] 3)).cell? ⟨w.heap.size, 0 + i, none⟩ = some (.int .i64 ([a, b, c, d, e, f].getD i 0)) := by
  intro i hi
  match i, hi with
  | 0, _ => simp [go_sem]
  | 1, _ => simp [go_sem]
  | 2, _ => simp [go_sem]
  | 3, _ => simp [go_sem]
  | 4, _ => simp [go_sem]
  | 5, _ => simp [go_sem]
theorem cells4 (w : World) (a b c d : Int) : ∀ i, i < 4 → (w.alloc (.cells #[.int .i64 a, .int .i64 b, .int .i64 c, .int .i64 d] 3)).cell? ⟨w.heap.size, 0 + i, none⟩ = some (.int .i64 ([a, b, c, d].getD i 0)) := by
  intro i hi
  match i, hi with
  | 0, _ => simp [go_sem]
  | 1, _ => simp [go_sem]
  | 2, _ => simp [go_sem]
  | 3, _ => simp [go_sem]
theorem cells3 (w : World) (a b c : Int) : ∀ i, i < 3 → (w.alloc (.cells #[.int .i64 a, .int .i64 b, .int .i64 c] 3)).cell? ⟨w.heap.size, 0 + i, none⟩ = some (.int .i64 ([a, b, c].getD i 0)) := by
  intro i hi
  match i, hi with
  | 0, _ => simp [go_sem]
  | 1, _ => simp [go_sem]
  | 2, _ => simp [go_sem]
/-- What the draw of a number keeps on its way. -/
structure BgI (C T : Nat) (w : World) (R : Nat) (wr : World) : Prop where
  cur : Cur C T wr
  but : But C (C + 1) w wr
  res : Zb wr R
theorem BgI.step {C T T' R : Nat} {w wr w' : World} (h : BgI C T w R wr) (hc : Cur C T' w') (hb : But C (C + 1) wr w') (hR : C < R) : BgI C T' w R w' := ⟨hc, h.but.trans hb, h.res.keep hb (.inr hR)⟩
theorem BgI.later {C T R : Nat} {w wr w' : World} (h : BgI C T w R wr) (hb : Below wr.heap.size wr w') : BgI C T w R w' := ⟨h.cur.later hb, h.but.trans (But.of_below hb), h.res.later hb⟩
theorem own_grown {w w' : World} {base C n : Nat} {v : Value} {xs : List Value} (h : w.ownsRow base 3 1 v n xs) (hg : w.grownBy w' v.ownBlock) {k : Nat} (hk : k < w.heap.size) (hb : k < base) : w'.heap[k]? = w.heap[k]? := by
  refine hg.block k hk (fun e => ?_)
  rcases h.2 with ⟨rfl, _⟩ | ⟨g, cap, cur, rfl, hg', _⟩
  · simp [Value.ownBlock] at e
  · simp [Value.ownBlock] at e
    omega
theorem own_below {w w' : World} {B n : Nat} {v : Value} {xs : List Value} (h : w.ownsRow B 3 1 v n xs) (hg : w.grownBy w' v.ownBlock) (hB : B ≤ w.heap.size) : Below B w w' := ⟨hg.os, hg.tape, hg.output, hg.size, fun k hk => own_grown (C := 0) h hg (by omega) hk⟩
theorem BgI.below {C T R B : Nat} {w wr w' : World} (h : BgI C T w R wr) (hb : Below B wr w') (hC : C < B) (hR : R < B) (hw : w.heap.size ≤ B) : BgI C T w R w' :=
  ⟨h.cur.below hb hC, ⟨hb.os.trans h.but.os, hb.tape.trans h.but.tape, hb.output.trans h.but.output, Nat.le_trans h.but.size hb.size, fun k hk hj => (hb.block k (by omega)).trans (h.but.block k hk hj)⟩, ⟨(hb.cell (p := ⟨R, 0, none⟩) hR).trans h.res.c0, (hb.cell (p := ⟨R, 1, none⟩) hR).trans h.res.c1, fun o => (hb.frozen (p := ⟨R, o, none⟩) hR).trans (h.res.fz o)⟩⟩
theorem BgI.al {C T R : Nat} {w wr : World} (h : BgI C T w R wr) (o : Obj) : BgI C T w R (wr.alloc o) := h.later ((Below.refl _ _).alloc (Nat.le_refl _) o)
theorem BgI.dr {C T R : Nat} {w wr : World} (h : BgI C T w R wr) : BgI C T w R wr.drew := h.later (Below.refl _ _).drew
theorem owns_set_ne {w : World} {base n g m c : Nat} {u : Value} {p : Addr} {xs : List Value} (h : w.ownsRow base 3 1 (.slice (some ⟨g, 0, none⟩) m c) n xs) (hp : p.block ≠ g) : (w.setCell p u).ownsRow base 3 1 (.slice (some ⟨g, 0, none⟩) m c) n xs := by
  refine ⟨h.1, ?_⟩
  rcases h.2 with ⟨h, _⟩ | ⟨g', cap, cur, e, hb, hg, h1⟩
  · cases h
  · have e0 := e
    injection e with e1
    injection e1 with e1
    injection e1 with e1
    subst e1
    exact .inr ⟨g, cap, cur, e0, hb, by rw [Below.heap_setCell _ _ _ _ (fun e => hp e.symm)]; exact hg, h1⟩
theorem own_lt {w : World} {B n : Nat} {v : Value} {xs : List Value} (h : w.ownsRow B 3 1 v n xs) : ∀ k, v.ownBlock = some k → B ≤ k ∧ k < w.heap.size := fun k e => by
  rcases h.2 with ⟨rfl, _⟩ | ⟨g, cap, cur, rfl, hb, hg, _⟩
  · simp [Value.ownBlock] at e
  · simp [Value.ownBlock] at e
    subst e
    exact ⟨hb, by rw [Array.getElem?_eq_some_iff] at hg; exact hg.1⟩
theorem new_cell1 (w : World) (d : Int) : ∀ j u, [Value.int .i64 d][j]? = some u → (w.alloc (.cells #[.int .i64 d] 3)).cell? ((⟨w.heap.size, 0, none⟩ : Addr).add j) = some u := new_cell w d
theorem BgI.mono {C T T' R : Nat} {w wr : World} (h : BgI C T w R wr) (hT : T ≤ T') : BgI C T' w R wr := ⟨h.cur.mono hT, h.but, h.res⟩
/-- What a draw hands out: a number's cells in new memory; all else but the cursor stays. -/
def OutDr (C T : Nat) (w : World) (e : Ending) (w' : World) : Prop := ∃ (b : BV) (d : BD), e = .returned (.agg #[.bool b.g, .slice b.a b.n b.c]) ∧ AllOwn w.heap.size w'.heap.size w' [(b, d)] ∧ AllAr w' [(b, d)] ∧ d.xs.length ≤ 42 ∧ Cur C T w' ∧ But C (C + 1) w w'
theorem owns_laterI {w w' : World} {B n : Nat} {v : Value} {M : List Value} (h : w.ownsRow B 3 1 v n M) (hb : Below w.heap.size w w') : w'.ownsRow B 3 1 v n M := by
  refine ⟨h.1, ?_⟩
  rcases h.2 with h | ⟨g, cap, cur, e, hg, h0, h1⟩
  · exact .inl h
  · refine .inr ⟨g, cap, cur, e, hg, ?_, h1⟩
    rw [hb.block g (by rw [Array.getElem?_eq_some_iff] at h0; exact h0.1)]
    exact h0
theorem big_fin {C T : Nat} {w W : World} {g2 : Bool} {a3 : Option Addr} {n3 c3 : Nat} {us : List Int} (h1 : W.ownsRow (w.heap.size + 1) 3 1 (.slice a3 n3 c3) n3 (us.map (Value.int .i64))) (h2 : us.length = n3) (h3 : n3 ≤ 42) (h4 : BgI C T w w.heap.size W) (hC : C < w.heap.size) : OutDr C T w (.returned (.agg #[.bool g2, .slice a3 n3 c3])) ((W.setCell ⟨w.heap.size, 0, none⟩ (.bool g2)).setCell ⟨w.heap.size, 1, none⟩ (.slice a3 n3 c3)) := by
  have k1 := owns_set (p := ⟨w.heap.size, 1, none⟩) (u := .slice a3 n3 c3) (owns_set (p := ⟨w.heap.size, 0, none⟩) (u := .bool g2) h1 (Nat.lt_succ_self _)) (Nat.lt_succ_self _)
  obtain ⟨a, c, e, q1, q2⟩ := owns_shape k1 h2
  injection e with e1 e2 e3
  subst e1 e3
  have hb : Below w.heap.size W ((W.setCell ⟨w.heap.size, 0, none⟩ (.bool g2)).setCell ⟨w.heap.size, 1, none⟩ (.slice a3 n3 c3)) := ((Below.refl _ _).setCell (p := ⟨w.heap.size, 0, none⟩) (Nat.le_refl _) _).setCell (p := ⟨w.heap.size, 1, none⟩) (Nat.le_refl _) _
  have hB : But C (C + 1) w ((W.setCell ⟨w.heap.size, 0, none⟩ (.bool g2)).setCell ⟨w.heap.size, 1, none⟩ (.slice a3 n3 c3)) := ⟨hb.os.trans h4.but.os, hb.tape.trans h4.but.tape, hb.output.trans h4.but.output, Nat.le_trans h4.but.size hb.size, fun k hk hj => (hb.block k hk).trans (h4.but.block k hk hj)⟩
  exact ⟨⟨g2, a3, n3, c3⟩, ⟨g2, us⟩, rfl, AllOwn.one ⟨rfl, ((q1.mono (Nat.le_succ _)).two), h2⟩, AllAr.cons ⟨rfl, q2⟩ (AllAr.nil _), by show us.length ≤ 42; omega, h4.cur.below hb hC, hB⟩
set_option maxHeartbeats 8000000 in
theorem big_v (C T : Nat) (w : World) (h : Cur C T w) (hT : T ≤ 990000) :
    Calls Tryz.prog 89 #[.pointer (some ⟨C, 0, none⟩)] w (OutDr C (T + 300) w) := by
  obtain ⟨i0, hi, hz0, hz1, hz2⟩ := info_parts Tryz.info3
  have hCw := h.lt
  have HC := hide h
  clear h
  have B0 : Hid (BgI C T w w.heap.size (w.alloc (.cells #[.bool false, .slice none 0 0] 25))) := hide ⟨(unhide HC).later ((Below.refl _ _).alloc (Nat.le_refl _) _), al_but _, Zb.new⟩
  go_enter Tryz.func89, Tryz.ntmps89
  go_wp2_with fail
  refine (pick_v C T 6 _ (unhide B0).cur (by omega) (by omega)).mono ?_
  rintro e w1 ⟨n0, rfl, n00, n01, n02, c1, b1⟩
  replace n01 := n01 (by omega)
  have B1 := hide ((unhide B0).step c1 b1 hCw)
  clear c1 b1 B0
  go_wp2_with fail
  refine (one_v C (T + 2) 12 _ (unhide B1).cur (by omega) (by omega)).mono ?_
  rintro e w2 ⟨o1, rfl, c1, b1⟩
  have B2 := hide ((unhide B1).step c1 b1 hCw)
  clear c1 b1 B1
  go_upto_if 9 with fail
  go_cut [3] (fun v w5 => ∃ k : Nat, v = .int .i64 k ∧ k ≤ 41 ∧ Hid (BgI C (T + 6) w w.heap.size w5))
  case first =>
    cases o1
    · go_wp2_with fail
      go_meet
      exact ⟨n0.toNat, by congr 1; omega, by omega, hide ((unhide B2).mono (by omega))⟩
    · have ML := (unhide B2).cur.lt
      go_wp2_with fail
      refine (among_v C (T + 4) w2.heap.size 0 4 4 [20, 39, 40, 41] _ ((unhide B2).al _).cur (by omega) (by omega) (by omega) rfl (by omega) (by simp) (cells4 _ _ _ _ _)).mono ?_
      rintro e w3 ⟨x, rfl, hx, c1, b1⟩
      have B3 := hide (((unhide B2).al _).step c1 b1 hCw)
      clear c1 b1 B2
      have hx2 : 0 ≤ x ∧ x ≤ 41 := by simp at hx; omega
      go_wp2_with fail
      go_meet
      exact ⟨x.toNat, by congr 1; omega, by omega, B3⟩
  case rest =>
    obtain ⟨k0, rfl, hk0, B3⟩ := hcut
    go_wp2
    go_loopw [3, 4] (fun v l wr => ∃ (k : Nat) (zs : List Int), v = .int .i64 k ∧ k + zs.length ≤ 41 ∧ Hid (wr.ownsRow (w.heap.size + 1) 3 1 l zs.length (zs.map (Value.int .i64))) ∧ Hid (BgI C (T + 6 + 6 * zs.length) w w.heap.size wr)) (fun v _ _ => (intOf v).toNat)
    case atStart => exact ⟨k0, [], rfl, by simpa using hk0, hide ⟨rfl, .inl ⟨rfl, rfl⟩⟩, B3⟩
    case round =>
      obtain ⟨k, zs, rfl, hk, HO, HI⟩ := hrel
      have szr : w.heap.size < wr.heap.size := World.block_lt_of_cell? _ _ (unhide HI).res.c0
      cases k with
      | zero =>
        have d0 : decide ((0 : Int) < ((0 : Nat) : Int)) = false := by simp
        go_wp2_with fail
        refine (one_v C _ 3 _ (unhide HI).cur (by omega) (by omega)).mono ?_
        rintro e w4 ⟨g, rfl, c1, b1⟩
        have I4 := hide ((unhide HI).step c1 b1 hCw)
        have O4 := hide (owns_keep (unhide HO) b1 (by omega))
        have s4 := b1.size
        clear c1 b1 HI HO
        obtain ⟨a1, c1, rfl, q1, q2⟩ := owns_shape (unhide O4) rfl
        have A4 := hide q2
        clear q1 q2 O4
        go_wp2_with fail
        refine (makeR_any g a1 zs.length c1 zs _ (unhide A4) (by omega)).mono ?_
        rintro e w5 ⟨a2, n2, c2, rfl, hb, ho, hn⟩
        have I5 := hide ((unhide I4).later hb)
        have s5 := hb.size
        have tl := trim_len zs
        clear hb I4
        generalize sgn g (trim zs) = g2 at *
        generalize trim zs = ts at *
        have O5 := hide ho
        have LT := hide hn
        have GB := hide (own_lt ho)
        clear ho
        have al : Below w5.heap.size w5 (w5.alloc (.cells #[.bool g2, .slice a2 n2 c2] 25)) := (Below.refl _ _).alloc (Nat.le_refl _) _
        have k0 : (w5.alloc (.cells #[.bool g2, .slice a2 n2 c2] 25)).cell? ⟨w5.heap.size, 0, none⟩ = some (.bool g2) := by simp [go_sem]
        have k1 : (w5.alloc (.cells #[.bool g2, .slice a2 n2 c2] 25)).cell? ⟨w5.heap.size, 1, none⟩ = some (.slice a2 n2 c2) := by simp [go_sem]
        have kf : ∀ o, (w5.alloc (.cells #[.bool g2, .slice a2 n2 c2] 25)).frozen? ⟨w5.heap.size, o, none⟩ = false := fun o => by simp [go_sem]
        have I6 := hide ((unhide I5).later al)
        have O6 := hide (owns_laterI (unhide O5) al)
        clear al I5 O5
        go_wp2_with fail
        refine (one_v C _ 40 _ (unhide I6).cur (by omega) (by omega)).mono ?_
        rintro e w6 ⟨o2, rfl, c3, b1⟩
        have CA : C < w5.heap.size := by omega
        replace k0 := b1.cell k0 (.inr (by omega))
        replace k1 := b1.cell k1 (.inr (by omega))
        replace kf := fun o => b1.fz (kf o) (by simp) (.inr (show C + 1 ≤ w5.heap.size by omega))
        have I7 := hide ((unhide I6).step c3 b1 hCw)
        have O7 := hide (owns_keep (unhide O6) b1 (by omega))
        have s6 := b1.size
        simp at s6
        clear c3 b1 I6 O6
        have r0 := (unhide I7).res.c0
        have r1 := (unhide I7).res.c1
        have rf := (unhide I7).res.fz
        have FIN : Hid (∀ (W : World) (a3 : Option Addr) (n3 c3 : Nat) (us : List Int), W.ownsRow (w.heap.size + 1) 3 1 (.slice a3 n3 c3) n3 (us.map (Value.int .i64)) → us.length = n3 → n3 ≤ 42 → BgI C (T + 300) w w.heap.size W → OutDr C (T + 300) w (.returned (.agg #[.bool g2, .slice a3 n3 c3])) ((W.setCell ⟨w.heap.size, 0, none⟩ (.bool g2)).setCell ⟨w.heap.size, 1, none⟩ (.slice a3 n3 c3))) := hide (fun W a3 n3 c3 us h1 h2 h3 h4 => big_fin h1 h2 h3 h4 hCw)
        cases o2
        · go_wp2_with fail
          refine bodyPost_ret (v := .agg #[.bool g2, .slice a2 n2 c2]) (by simp [results, Tryz.results89, go_sem, r0, r1]) rfl ?_
          exact unhide FIN _ _ _ _ ts (owns_wide (unhide O7) (by omega)) (unhide LT) (by have := unhide LT; omega) ((unhide I7).mono (by omega))
        · have k1d : w6.drew.cell? ⟨w5.heap.size, 1, none⟩ = some (.slice a2 n2 c2) := k1
          have k1a : (w6.drew.alloc (.cells #[.int .i64 0, .int .i64 (-1), .int .i64 65536] 3)).cell? ⟨w5.heap.size, 1, none⟩ = some (.slice a2 n2 c2) := cell_later ((Below.refl _ _).alloc (Nat.le_refl _) _) k1d
          have k1b : (w6.alloc (.cells #[.int .i64 0, .int .i64 (-1), .int .i64 65536] 3)).cell? ⟨w5.heap.size, 1, none⟩ = some (.slice a2 n2 c2) := k1a
          have hsd : w6.drew.heap.size = w6.heap.size := rfl
          go_upto_region 10 with fail
          go_region_law
            (first
            | (go_simp; go_at_call 81; refine (among_v C _ w6.heap.size 0 3 3 [0, -1, 65536] _ ((unhide I7).dr.al _).cur (by omega) (by omega) (by omega) rfl (by omega) (by simp) (cells3 w6.drew _ _ _)).mono ?_; rintro e w8 ⟨z, rfl, hz, c3, b1⟩; have I8 := hide (((unhide I7).dr.al _).step c3 b1 hCw); have O8 := hide (owns_keep (owns_keep (C := C) (owns_keep (C := C) (unhide O7) (But.of_below (Below.refl _ _).drew) (by omega)) (al_but _) (by omega)) b1 (by omega)); have k1w := b1.cell k1a (.inr (by omega)); have k0w := b1.cell (cell_later ((Below.refl _ _).alloc (Nat.le_refl _) (.cells #[.int .i64 0, .int .i64 (-1), .int .i64 65536] 3)) (show w6.drew.cell? ⟨w5.heap.size, 0, none⟩ = some (.bool g2) from k0)) (.inr (by omega)); have kfw := fun o => b1.fz (frozen_later ((Below.refl _ _).alloc (Nat.le_refl _) (.cells #[.int .i64 0, .int .i64 (-1), .int .i64 65536] 3)) (show w5.heap.size < w6.drew.heap.size by omega) (show w6.drew.frozen? ⟨w5.heap.size, o, none⟩ = false from kf o)) (by simp; omega) (.inr (show C + 1 ≤ w5.heap.size by omega)); have s8 := b1.size; simp at s8; have k1x : (w8.alloc (.cells #[.int .i64 z] 3)).cell? ⟨w5.heap.size, 1, none⟩ = some (.slice a2 n2 c2) := cell_later ((Below.refl _ _).alloc (Nat.le_refl _) _) k1w; clear c3 b1)
            | (refine step_append_lies _ rfl (.tmp 36) (.tmp 40) 23 rfl w4.heap.size 3 i0 (.int .i64 0) 1 8 Tryz.underlying23 hi hz0 hz1 hz2 rfl (by decide) _ n2 (ts.map (Value.int .i64)) rfl (owns_keep (C := C) (unhide O8) (al_but _) (by omega)) ⟨w8.heap.size, 0, none⟩ 1 1 [.int .i64 z] rfl rfl (new_cell1 _ _) (fun u hu => by simp at hu; subst hu; rfl) (by omega) (by have := unhide LT; unfold maxLen; omega) (by have := unhide LT; omega) (by simp; omega) _ rfl ?_; intro gg cap w9 hown hgrow hor hlt; have hbk := hgrow.block w5.heap.size (by simp; omega) (fun e => by have := unhide GB _ e.symm; omega); have k19 : w9.cell? ⟨w5.heap.size, 1, none⟩ = some (.slice a2 n2 c2) := (World.cell?_of_block (a := ⟨w5.heap.size, 1, none⟩) hbk).trans k1x; have k09 : w9.cell? ⟨w5.heap.size, 0, none⟩ = some (.bool g2) := (World.cell?_of_block (a := ⟨w5.heap.size, 0, none⟩) hbk).trans (cell_later ((Below.refl _ _).alloc (Nat.le_refl _) _) k0w); have kf9 : ∀ o, w9.frozen? ⟨w5.heap.size, o, none⟩ = false := fun o => (World.frozen?_of_block (a := ⟨w5.heap.size, o, none⟩) hbk).trans (frozen_later ((Below.refl _ _).alloc (Nat.le_refl _) _) (show w5.heap.size < w8.heap.size by omega) (kfw o)); have I9 := hide (((unhide I8).al (.cells #[.int .i64 z] 3)).below (own_below (owns_keep (C := C) (unhide O8) (al_but _) (by omega)) hgrow (by simp; omega)) (by omega) (by omega) (by omega)); have O9 := hide hown; have gA : w5.heap.size ≠ gg := (by rcases hor with h | h; have := unhide GB _ h; omega; simp at h; omega); have s9 := hgrow.size; simp at s9; clear hown hgrow hor hlt hbk k1x k1w k0w kfw)
            | fail)
          all_goals clear r0 r1 rf k0 k1 kf k1d k1a k1b
          all_goals
            have I10 := hide ((unhide I9).below (show Below (w.heap.size + 1) w9 (w9.setCell ⟨w5.heap.size, 1, none⟩ (.slice (some ⟨gg, 0, none⟩) (n2 + 1) cap)) from (Below.refl _ _).setCell (p := ⟨w5.heap.size, 1, none⟩) (show w.heap.size + 1 ≤ w5.heap.size by omega) _) (by omega) (by omega) (by omega))
            have O10 := hide (owns_set_ne (p := ⟨w5.heap.size, 1, none⟩) (u := .slice (some ⟨gg, 0, none⟩) (n2 + 1) cap) (unhide O9) gA)
            have r0 := (unhide I10).res.c0
            have r1 := (unhide I10).res.c1
            have rf := (unhide I10).res.fz
            have q0 : (w9.setCell ⟨w5.heap.size, 1, none⟩ (.slice (some ⟨gg, 0, none⟩) (n2 + 1) cap)).cell? ⟨w5.heap.size, 0, none⟩ = some (.bool g2) := by simp [go_sem, k09, k19]
            have q1 : (w9.setCell ⟨w5.heap.size, 1, none⟩ (.slice (some ⟨gg, 0, none⟩) (n2 + 1) cap)).cell? ⟨w5.heap.size, 1, none⟩ = some (.slice (some ⟨gg, 0, none⟩) (n2 + 1) cap) := by simp [go_sem, k09, k19]
            clear k09 k19 kf9 I9 O9
            generalize (w9.setCell ⟨w5.heap.size, 1, none⟩ (.slice (some ⟨gg, 0, none⟩) (n2 + 1) cap)) = wx at *
            go_wp2_with fail
            refine bodyPost_ret (v := .agg #[.bool g2, .slice (some ⟨gg, 0, none⟩) (n2 + 1) cap]) (by simp [results, Tryz.results89, go_sem, r0, r1]) rfl ?_
            exact unhide FIN _ _ _ _ (ts ++ [z]) (by rw [List.map_append]; exact owns_wide (unhide O10) (by omega)) (by simp; exact unhide LT) (by have := unhide LT; omega) ((unhide I10).mono (by omega))
      | succ k =>
        have d0 : decide ((0 : Int) < ((k + 1 : Nat) : Int)) = true := by rw [decide_eq_true_eq]; omega
        have kw : IntKind.i64.wrap (((k + 1 : Nat) : Int) - 1) = (k : Int) := by rw [IntKind.wrap_i64]; omega
        go_wp2_with fail
        refine (pick_v C _ 256 _ (unhide HI).cur (by omega) (by omega)).mono ?_
        rintro e w4 ⟨x, rfl, x0, x1, x2, c1, b1⟩
        replace x1 := x1 (by omega)
        have xw : IntKind.i64.wrap (256 * x) = 256 * x := by rw [IntKind.wrap_i64]; omega
        have I4 := hide ((unhide HI).step c1 b1 hCw)
        have O4 := hide (owns_keep (unhide HO) b1 (by omega))
        have s4 := b1.size
        clear c1 b1 HI HO
        go_wp2_with fail
        refine (pick_v C _ 256 _ (unhide I4).cur (by omega) (by omega)).mono ?_
        rintro e w5 ⟨y, rfl, y0, y1, y2, c1, b1⟩
        replace y1 := y1 (by omega)
        have yw : IntKind.i64.wrap (256 * x + y) = 256 * x + y := by rw [IntKind.wrap_i64]; omega
        have I5 := hide ((unhide I4).step c1 b1 hCw)
        have O5 := hide (owns_keep (unhide O4) b1 (by omega))
        have s5 := b1.size
        clear c1 b1 I4 O4
        go_wp2_with fail
        refine (among_v C _ w5.heap.size 0 6 6 [0, 1, 65535, 32768, 256 * x + y, 7] _ ((unhide I5).al _).cur (by omega) (by omega) (by omega) rfl (by omega) (by simp) (cells6 _ _ _ _ _ _ _)).mono ?_
        rintro e w6 ⟨z, rfl, hz, c1, b1⟩
        have I6 := hide (((unhide I5).al _).step c1 b1 hCw)
        have O6 := hide (owns_keep (owns_keep (C := C) (unhide O5) (al_but _) (by omega)) b1 (by omega))
        have s6 := b1.size
        simp at s6
        clear c1 b1 I5 O5
        go_wp2_with (at_builtin; refine wpList_append_own _ rfl (.tmp 17) (.tmp 27) 23 rfl (w.heap.size + 1) 3 i0 (.int .i64 0) 1 8 Tryz.underlying23 hi hz0 hz1 hz2 rfl (by decide) _ _ _ rfl ((unhide O6).alloc _) ⟨_, 0, none⟩ 1 1 [.int .i64 z] rfl rfl (new_cell _ _) (fun u hu => by simp at hu; subst hu; rfl) (by unfold maxLen; omega) (by omega) (by simp; omega) ?_)
        intro v' w7 hown hg _
        have O7 := hide (push_owns (w := w) (v := v') hown)
        have I7 := hide (((unhide I6).al (.cells #[.int .i64 z] 3)).below (own_below ((unhide O6).alloc _) hg (by simp; omega)) (by omega) (by omega) (by omega))
        clear hown hg
        go_wp2
        go_roundw
        case rel => exact ⟨k, zs ++ [z], rfl, by simp; omega, by simpa using O7, by simp; exact hide ((unhide I7).mono (by omega))⟩
        case measure => simp [intOf]
end Go.Proofs.YtdgonpbponnnaaaGreatDoor

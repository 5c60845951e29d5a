/- Chapter 9 of the program: stretches, how often one goes round, crossings. No condition beyond those typed. Written by mkim9.py. -/
import Derived.Test.YteconjkjpalomaaSeg8
import Derived.Test.YteconjkjpalomaaSp9
namespace Go.Proofs.Yteconjkjpalomaa
open Go.RowKit
set_option linter.unusedVariables false
set_option maxRecDepth 100000
set_option linter.unusedSimpArgs false

def stT (x y : Int × Int) : TypeId := if x.2 < y.2 then 76 else if y.2 < x.2 then 77 else 78
/-- A stretch as it lies in a cell. -/
def stV (x y : Int × Int) : Value := .iface (stT x y) (.agg #[.int .i64 x.1, .int .i64 x.2, .int .i64 y.1, .int .i64 y.2])
set_option maxHeartbeats 1000000 in
theorem stretchI (x y : Int × Int) (w : World) :
    Calls Try.prog 44 #[.agg #[.int .i64 x.1, .int .i64 x.2, .int .i64 y.1, .int .i64 y.2]] w fun e w' => e = .returned (stV x y) ∧ Below w.heap.size w w' := by
  have B0 := hide (show Below w.heap.size w (w.alloc (.cells #[.int .i64 x.1, .int .i64 x.2, .int .i64 y.1, .int .i64 y.2] 70)) from (Below.refl _ _).alloc (by simp) _)
  have HU := hide (show stV x y = .iface (stT x y) (.agg #[.int .i64 x.1, .int .i64 x.2, .int .i64 y.1, .int .i64 y.2]) from rfl)
  generalize stV x y = v at *
  by_cases h1 : x.2 < y.2
  · have E : Hid (stT x y = 76) := hide (by unfold stT; rw [if_pos h1])
    go_enter Try.func44, Try.ntmps44
    go_wp2
    go_ret
    exact ⟨by rw [unhide HU, unhide E]; rfl, unhide B0⟩
  · by_cases h2 : y.2 < x.2
    · have E : Hid (stT x y = 77) := hide (by unfold stT; rw [if_neg h1, if_pos h2])
      go_enter Try.func44, Try.ntmps44
      go_wp2
      go_ret
      exact ⟨by rw [unhide HU, unhide E]; rfl, unhide B0⟩
    · have E : Hid (stT x y = 78) := hide (by unfold stT; rw [if_neg h1, if_neg h2])
      go_enter Try.func44, Try.ntmps44
      go_wp2
      go_ret
      exact ⟨by rw [unhide HU, unhide E]; rfl, unhide B0⟩
theorem sg3 (k : Int) : sgZ k = -1 ∨ sgZ k = 0 ∨ sgZ k = 1 := by unfold sgZ; split <;> (try split) <;> simp
set_option maxHeartbeats 4000000 in
theorem passI (x y p : Int × Int) (w : World) (hx : Near x) (hy : Near y) (hp : Near p) :
    Calls Try.prog 34 #[stV x y, .agg #[.int .i64 p.1, .int .i64 p.2]] w fun e w' => e = .returned (.int .i64 (wiT x y p)) ∧ Below w.heap.size w w' := by
  have CT := hide (fun w => turnI x y p w hx hy hp)
  clear hx hy hp
  have ta1 : ∀ (v : Value) (w : World), (Instr.typeAssert (.iface 76 v) 59 76 true).run Try.prog w = .ok (.tuple #[v, .bool true]) w := fun v w => by kernel_rfl
  have ta2 : ∀ (v : Value) (w : World), (Instr.typeAssert (.iface 77 v) 59 76 true).run Try.prog w = .ok (.tuple #[.agg #[.int .i64 0, .int .i64 0, .int .i64 0, .int .i64 0], .bool false]) w := fun v w => by kernel_rfl
  have ta3 : ∀ (v : Value) (w : World), (Instr.typeAssert (.iface 78 v) 59 76 true).run Try.prog w = .ok (.tuple #[.agg #[.int .i64 0, .int .i64 0, .int .i64 0, .int .i64 0], .bool false]) w := fun v w => by kernel_rfl
  have ta4 : ∀ (v : Value) (w : World), (Instr.typeAssert (.iface 77 v) 59 77 true).run Try.prog w = .ok (.tuple #[v, .bool true]) w := fun v w => by kernel_rfl
  have ta5 : ∀ (v : Value) (w : World), (Instr.typeAssert (.iface 78 v) 59 77 true).run Try.prog w = .ok (.tuple #[.agg #[.int .i64 0, .int .i64 0, .int .i64 0, .int .i64 0], .bool false]) w := fun v w => by kernel_rfl
  have ta6 : ∀ (v : Value) (w : World), (Instr.typeAssert (.iface 78 v) 59 78 true).run Try.prog w = .ok (.tuple #[v, .bool true]) w := fun v w => by kernel_rfl
  by_cases h1 : x.2 < y.2
  · have E : Hid (stV x y = .iface 76 (.agg #[.int .i64 x.1, .int .i64 x.2, .int .i64 y.1, .int .i64 y.2])) := hide (by unfold stV stT; rw [if_pos h1])
    rw [unhide E]
    clear E
    have B0 := hide (show Below w.heap.size w ((w.alloc (.cells #[.int .i64 p.1, .int .i64 p.2] 25)).alloc (.cells #[.int .i64 x.1, .int .i64 x.2, .int .i64 y.1, .int .i64 y.2] 76)) from ((Below.refl _ _).alloc (by simp) _).alloc (by simp) _)
    by_cases b1 : x.2 ≤ p.2
    · by_cases b2 : p.2 < y.2
      · rcases sg3 (crs x y p) with e | e | e
        · have EV : Hid (wiT x y p = 0) := hide (by unfold wiT upB dnB; rw [e]; simp; try omega)
          rw [e] at CT
          clear e
          go_enter Try.func34, Try.ntmps34
          go_wp2_with fail
          refine (unhide CT _).mono ?_
          rintro e w1 ⟨rfl, hb⟩
          have HB := hide (below_on (unhide B0) hb)
          clear hb
          go_wp2
          go_ret
          exact ⟨by rw [unhide EV]; rfl, unhide HB⟩
        · have EV : Hid (wiT x y p = 0) := hide (by unfold wiT upB dnB; rw [e]; simp; try omega)
          rw [e] at CT
          clear e
          go_enter Try.func34, Try.ntmps34
          go_wp2_with fail
          refine (unhide CT _).mono ?_
          rintro e w1 ⟨rfl, hb⟩
          have HB := hide (below_on (unhide B0) hb)
          clear hb
          go_wp2
          go_ret
          exact ⟨by rw [unhide EV]; rfl, unhide HB⟩
        · have EV : Hid (wiT x y p = 1) := hide (by unfold wiT upB dnB; rw [e]; simp; try omega)
          rw [e] at CT
          clear e
          go_enter Try.func34, Try.ntmps34
          go_wp2_with fail
          refine (unhide CT _).mono ?_
          rintro e w1 ⟨rfl, hb⟩
          have HB := hide (below_on (unhide B0) hb)
          clear hb
          go_wp2
          go_ret
          exact ⟨by rw [unhide EV]; rfl, unhide HB⟩
      · have EV : Hid (wiT x y p = 0) := hide (by unfold wiT upB dnB; simp; omega)
        go_enter Try.func34, Try.ntmps34
        go_wp2
        go_ret
        exact ⟨by rw [unhide EV]; rfl, unhide B0⟩
    · have EV : Hid (wiT x y p = 0) := hide (by unfold wiT upB dnB; simp; omega)
      go_enter Try.func34, Try.ntmps34
      go_wp2
      go_ret
      exact ⟨by rw [unhide EV]; rfl, unhide B0⟩
  · by_cases h2 : y.2 < x.2
    · have E : Hid (stV x y = .iface 77 (.agg #[.int .i64 x.1, .int .i64 x.2, .int .i64 y.1, .int .i64 y.2])) := hide (by unfold stV stT; rw [if_neg h1, if_pos h2])
      rw [unhide E]
      clear E
      have B0 := hide (show Below w.heap.size w ((w.alloc (.cells #[.int .i64 p.1, .int .i64 p.2] 25)).alloc (.cells #[.int .i64 x.1, .int .i64 x.2, .int .i64 y.1, .int .i64 y.2] 77)) from ((Below.refl _ _).alloc (by simp) _).alloc (by simp) _)
      by_cases b1 : y.2 ≤ p.2
      · by_cases b2 : p.2 < x.2
        · rcases sg3 (crs x y p) with e | e | e
          · have EV : Hid (wiT x y p = -1) := hide (by unfold wiT upB dnB; rw [e]; simp; try omega)
            rw [e] at CT
            clear e
            go_enter Try.func34, Try.ntmps34
            go_wp2_with fail
            refine (unhide CT _).mono ?_
            rintro e w1 ⟨rfl, hb⟩
            have HB := hide (below_on (unhide B0) hb)
            clear hb
            go_wp2
            go_ret
            exact ⟨by rw [unhide EV]; rfl, unhide HB⟩
          · have EV : Hid (wiT x y p = 0) := hide (by unfold wiT upB dnB; rw [e]; simp; try omega)
            rw [e] at CT
            clear e
            go_enter Try.func34, Try.ntmps34
            go_wp2_with fail
            refine (unhide CT _).mono ?_
            rintro e w1 ⟨rfl, hb⟩
            have HB := hide (below_on (unhide B0) hb)
            clear hb
            go_wp2
            go_ret
            exact ⟨by rw [unhide EV]; rfl, unhide HB⟩
          · have EV : Hid (wiT x y p = 0) := hide (by unfold wiT upB dnB; rw [e]; simp; try omega)
            rw [e] at CT
            clear e
            go_enter Try.func34, Try.ntmps34
            go_wp2_with fail
            refine (unhide CT _).mono ?_
            rintro e w1 ⟨rfl, hb⟩
            have HB := hide (below_on (unhide B0) hb)
            clear hb
            go_wp2
            go_ret
            exact ⟨by rw [unhide EV]; rfl, unhide HB⟩
        · have EV : Hid (wiT x y p = 0) := hide (by unfold wiT upB dnB; simp; omega)
          go_enter Try.func34, Try.ntmps34
          go_wp2
          go_ret
          exact ⟨by rw [unhide EV]; rfl, unhide B0⟩
      · have EV : Hid (wiT x y p = 0) := hide (by unfold wiT upB dnB; simp; omega)
        go_enter Try.func34, Try.ntmps34
        go_wp2
        go_ret
        exact ⟨by rw [unhide EV]; rfl, unhide B0⟩
    · have E : Hid (stV x y = .iface 78 (.agg #[.int .i64 x.1, .int .i64 x.2, .int .i64 y.1, .int .i64 y.2])) := hide (by unfold stV stT; rw [if_neg h1, if_neg h2])
      rw [unhide E]
      have EV : Hid (wiT x y p = 0) := hide (by unfold wiT upB dnB; simp; omega)
      have B0 := hide (show Below w.heap.size w ((w.alloc (.cells #[.int .i64 p.1, .int .i64 p.2] 25)).alloc (.cells #[.int .i64 x.1, .int .i64 x.2, .int .i64 y.1, .int .i64 y.2] 78)) from ((Below.refl _ _).alloc (by simp) _).alloc (by simp) _)
      clear E
      go_enter Try.func34, Try.ntmps34
      go_wp2
      go_ret
      exact ⟨by rw [unhide EV]; rfl, unhide B0⟩
def StM (M : List Value) (l : List (Int × Int)) (k : Nat) : Prop := ∀ i, i < k → M[i]? = some (stV (l.getD i (0, 0)) (nxt l i))
theorem StM.step {M : List Value} {l : List (Int × Int)} {n k : Nat} (hM : M.length = n) (hk : k < n) (h : StM M l k) : StM (M.set k (stV (l.getD k (0, 0)) (nxt l k))) l (k + 1) := by
  intro i hi
  simp only [List.getElem?_set]
  by_cases e : k = i
  · subst e; rw [if_pos rfl, if_pos (by omega)]
  · rw [if_neg e]; exact h i (by omega)
/-- The stretches of a way, in block G. -/
structure StR9 (w : World) (G n : Nat) (l : List (Int × Int)) : Prop where
  lt : G < w.heap.size
  len : l.length = n
  at_ : ∀ i, i < n → w.cell? ⟨G, i, none⟩ = some (stV (l.getD i (0, 0)) (nxt l i))
theorem StR9.later {w w' : World} {G n : Nat} {l : List (Int × Int)} (h : StR9 w G n l) (hb : Below w.heap.size w w') : StR9 w' G n l :=
  ⟨Nat.lt_of_lt_of_le h.lt hb.size, h.len, fun i hi => cell_later hb (h.at_ i hi)⟩
theorem SgP.but {w w' : World} {G S n : Nat} {l : List (Int × Int)} (h : SgP w S n l) (hb : But G (G + 1) w w') (hg : G < S) : SgP w' S n l :=
  ⟨Nat.lt_of_lt_of_le h.lt hb.size, h.len, fun i hi => ⟨hb.cell (h.at_ i hi).1 (.inr hg), hb.cell (h.at_ i hi).2.1 (.inr hg), hb.cell (h.at_ i hi).2.2.1 (.inr hg), hb.cell (h.at_ i hi).2.2.2 (.inr hg)⟩⟩
theorem but_one9 {w : World} {G k : Nat} {x : Value} : But G (G + 1) w (w.setCell ⟨G, k, none⟩ x) := (But.refl _ _ _).set (p := ⟨G, k, none⟩) (Nat.le_refl G) (Nat.lt_succ_self G) x
theorem infoSt : (Try.prog.info? 59).map (fun i => (i.zero, i.size, i.bytes)) = some (some .nilIface, 1, 16) := by kernel_rfl
set_option maxHeartbeats 4000000 in
theorem stretchesI (a : Option Addr) (n c : Nat) (l : List (Int × Int)) (w : World) (h : SlP w a l) (hn : l.length = n) (h0 : 0 < n) (h1 : n ≤ 1048576) :
    Calls Try.prog 28 #[.slice a n c] w fun e w' => e = .returned (.slice (some ⟨w.heap.size, 0, none⟩) n n) ∧ Below w.heap.size w w' ∧ StR9 w' w.heap.size n l := by
  obtain ⟨i0, hi, hz0, hz1, hz2⟩ := info_parts infoSt
  have HS := hide h
  have HN := hide hn
  clear h hn
  go_enter Try.func28, Try.ntmps28
  go_wp2_with (at_make; refine wpList_make_full _ rfl _ _ 40 rfl w.heap.size 59 i0 .nilIface 1 Try.underlying40 hi hz0 hz1 .i64 .i64 _ _ n rfl rfl rfl rfl ?c1 ?c2 ?c3 ?_)
  case c1 => rw [hz2]; omega
  case c2 => unfold maxLen; omega
  case c3 => exact Nat.le_refl _
  intro w1 hown hgrow
  have hb0 : Below w.heap.size w w1 := (Below.refl _ _).grown hgrow (Nat.le_refl _) (fun k e => by cases e)
  have CS := hide (segsI a n c l w1 ((unhide HS).later hb0) (unhide HN) h0 h1)
  have P0 := hide hown
  clear hown hgrow hi hz0 hz1 hz2
  have HB0 := hide hb0
  clear hb0
  go_wp2_with fail
  refine (unhide CS).mono ?_
  rintro e w2 ⟨rfl, hb, sg⟩
  have SG := hide sg
  have HB2 := hide (below_on (unhide HB0) hb)
  have P2 : Hid (∃ M, w2.ownsRow w.heap.size 59 1 (.slice (some ⟨w.heap.size, 0, none⟩) n n) n M) := hide ⟨_, ownsRow_laterP (unhide P0) hb⟩
  have ltS : w.heap.size < w1.heap.size := row_lt8 (unhide P0)
  clear hb sg CS P0 HB0
  generalize w1.heap.size = S at *
  go_wp2
  go_loopw [12] (fun iv wr => ∃ k : Nat, k ≤ n ∧ iv = .int .i64 k ∧ Hid (∃ M, wr.ownsRow w.heap.size 59 1 (.slice (some ⟨w.heap.size, 0, none⟩) n n) n M ∧ StM M l k) ∧ Hid (SgP wr S n l) ∧ Hid (Below w.heap.size w wr)) (fun iv _ => n - (intOf iv).toNat)
  case atStart =>
    obtain ⟨M, hM⟩ := unhide P2
    exact ⟨0, Nat.zero_le _, rfl, hide ⟨M, hM, fun i hi => absurd hi (by omega)⟩, SG, HB2⟩
  case round =>
    clear P2 HB2 SG
    obtain ⟨k, hk, rfl, EM, SG, HB⟩ := hrel
    by_cases hlt : k < n
    · have hlt' : (k : Int) < (n : Int) := by omega
      have e0 := (unhide SG).at_ k hlt
      obtain ⟨M, hM, hL⟩ := unhide EM
      have HM := hide hM
      have STP := hide (hL.step (by have := hM.1; omega) hlt)
      clear hL EM
      generalize nxt l k = y at *
      generalize l.getD k (0, 0) = x at *
      have E0 := e0.1
      have E1 := e0.2.1
      have E2 := e0.2.2.1
      have E3 := e0.2.2.2
      clear e0
      have al : Below wr.heap.size wr (wr.alloc (.cells #[.int .i64 x.1, .int .i64 x.2, .int .i64 y.1, .int .i64 y.2] 70)) := (Below.refl _ _).alloc (Nat.le_refl _) _
      have CT := hide (stretchI x y (wr.alloc (.cells #[.int .i64 x.1, .int .i64 x.2, .int .i64 y.1, .int .i64 y.2] 70)))
      replace HM := hide (ownsRow_laterP (unhide HM) al)
      replace SG := hide ((unhide SG).later al)
      replace HB := hide (below_on (unhide HB) al)
      clear al hM
      go_wp2_with fail
      refine (unhide CT).mono ?_
      clear CT
      rintro e w4 ⟨rfl, hb⟩
      replace HM := hide (ownsRow_laterP (unhide HM) hb)
      replace SG := hide ((unhide SG).later hb)
      replace HB := hide (below_on (unhide HB) hb)
      clear E0 E1 E2 E3
      have hM := unhide HM
      have hl := hM.1
      obtain ⟨x0, o0⟩ : ∃ x, w4.cell? ⟨w.heap.size, k, none⟩ = some x := by rw [hM.cellAt _ (by omega)]; exact ⟨_, List.getElem?_eq_getElem (by omega)⟩
      have fr : ∀ o, w4.frozen? ⟨w.heap.size, o, none⟩ = false := fun o => hM.frozenAt o
      clear hM hl hb
      have EU : stV x y = .iface (stT x y) (.agg #[.int .i64 x.1, .int .i64 x.2, .int .i64 y.1, .int .i64 y.2]) := rfl
      rw [EU] at STP ⊢
      clear EU
      generalize stT x y = T at *
      generalize Value.agg #[.int .i64 x.1, .int .i64 x.2, .int .i64 y.1, .int .i64 y.2] = u at *
      go_wp2
      go_roundw
      case rel =>
        refine ⟨k + 1, by omega, by go_num, hide ⟨_, (World.ownsRow.stored (unhide HM) k (.iface T u)).1, unhide STP⟩, hide ((unhide SG).but but_one9 ltS), hide ?_⟩
        exact but_one9.below (unhide HB) (Nat.le_refl _) (by have := (unhide HB).size; exact this)
      case measure => simp [intOf]; omega
    · obtain rfl : k = n := by omega
      go_wp2
      go_ret
      obtain ⟨M, hM, hL⟩ := unhide EM
      refine ⟨rfl, unhide HB, (row_lt8 hM), unhide HN, fun i hi => ?_⟩
      rw [hM.cellAt _ (by omega)]; exact hL i hi
theorem method9 (x y : Int × Int) (w : World) : (method 201 (stT x y) (.agg #[.int .i64 x.1, .int .i64 x.2, .int .i64 y.1, .int .i64 y.2]) "loop.example/g00409/impl.has").run Try.prog w = .ok (59, .agg #[.int .i64 x.1, .int .i64 x.2, .int .i64 y.1, .int .i64 y.2]) w := by
  unfold stT
  split
  · kernel_rfl
  · split <;> kernel_rfl
set_option maxHeartbeats 4000000 in
theorem onAnyI (G n : Nat) (l : List (Int × Int)) (p : Int × Int) (w : World) (h : StR9 w G n l) (h0 : 0 < n) (h1 : n ≤ 1048000) (hg : ∀ p ∈ l, Near p) (hp : Near p) :
    Calls Try.prog 27 #[.slice (some ⟨G, 0, none⟩) n n, .agg #[.int .i64 p.1, .int .i64 p.2]] w fun e w' => e = .returned (.bool (onK l p l.length)) ∧ Below w.heap.size w w' := by
  have al0 : Below w.heap.size w (w.alloc (.cells #[.int .i64 p.1, .int .i64 p.2] 25)) := (Below.refl _ _).alloc (Nat.le_refl _) _
  have HS := hide (h.later al0)
  have HN := hide h.len
  have HG := hide hg
  have HP := hide hp
  have KP : Hid ((w.alloc (.cells #[.int .i64 p.1, .int .i64 p.2] 25)).cell? ⟨w.heap.size, 0, none⟩ = some (.int .i64 p.1) ∧ (w.alloc (.cells #[.int .i64 p.1, .int .i64 p.2] 25)).cell? ⟨w.heap.size, 1, none⟩ = some (.int .i64 p.2)) := hide (by simp [go_sem])
  have BA := hide al0
  have lt0 : w.heap.size < (w.alloc (.cells #[.int .i64 p.1, .int .i64 p.2] 25)).heap.size := by simp
  clear h hg hp al0
  go_enter Try.func27, Try.ntmps27
  go_wp2
  generalize w.alloc (.cells #[.int .i64 p.1, .int .i64 p.2] 25) = w0 at *
  go_loopw [9] (fun iv wr => ∃ i : Nat, i ≤ n ∧ iv = .int .i64 i ∧ Hid (onK l p i = false) ∧ Hid (Below w0.heap.size w0 wr)) (fun iv _ => n - (intOf iv).toNat)
  case atStart => exact ⟨0, Nat.zero_le _, rfl, hide rfl, hide (Below.refl _ _)⟩
  case round =>
    obtain ⟨i, hi, rfl, HK, HB⟩ := hrel
    by_cases hlt : i < n
    · have hlt' : (i : Int) < (n : Int) := by omega
      have E0 := ((unhide HS).later (unhide HB)).at_ i hlt
      have np := getD_near9 (unhide HG) i
      have nq := unhide HG _ (nxt_mem (l := l) (by rw [unhide HN]; omega) i)
      have p0 : wr.cell? ⟨w.heap.size, 0, none⟩ = some (.int .i64 p.1) := ((unhide HB).cell (p := ⟨w.heap.size, 0, none⟩) lt0).trans (unhide KP).1
      have p1 : wr.cell? ⟨w.heap.size, 1, none⟩ = some (.int .i64 p.2) := ((unhide HB).cell (p := ⟨w.heap.size, 1, none⟩) lt0).trans (unhide KP).2
      have CO := hide (fun w => hasI (l.getD i (0, 0)) (nxt l i) p w np nq (unhide HP))
      have HV : Hid (onK l p (i + 1) = onV (l.getD i (0, 0)) (nxt l i) p) := hide (by show (onK l p i || _) = _; rw [unhide HK]; rfl)
      generalize onV (l.getD i (0, 0)) (nxt l i) p = v at *
      generalize nxt l i = y at *
      generalize l.getD i (0, 0) = x at *
      clear np nq
      have EU : stV x y = .iface (stT x y) (.agg #[.int .i64 x.1, .int .i64 x.2, .int .i64 y.1, .int .i64 y.2]) := rfl
      rw [EU] at E0
      clear EU
      have MT := fun w => method9 x y w
      generalize stT x y = T at *
      go_wp2_with fail
      refine (unhide CO _).mono ?_
      rintro e w2 ⟨rfl, hb⟩
      have HB1 := hide (below_on (unhide HB) hb)
      clear hb p0 p1 E0 CO MT
      cases v
      · go_wp2
        go_roundw
        case rel => exact ⟨i + 1, by omega, by go_num, HV, HB1⟩
        case measure => simp [intOf]; omega
      · have HT : Hid (onK l p l.length = true) := hide (onK_le (by rw [unhide HN]; omega) (unhide HV))
        go_wp2
        go_ret
        exact ⟨by rw [unhide HT]; rfl, below_on (unhide BA) (unhide HB1)⟩
    · obtain rfl : i = n := by omega
      have HT : Hid (onK l p l.length = false) := hide (by rw [unhide HN]; exact unhide HK)
      go_wp2
      go_ret
      exact ⟨by rw [unhide HT]; rfl, below_on (unhide BA) (unhide HB)⟩
theorem crT_abs (a b p : Int × Int) : ((wiT a b p).natAbs : Int) = crT a b p := by
  unfold wiT crT
  cases upB a b p && (sgZ (crs a b p) == 1) <;> cases dnB a b p && (sgZ (crs a b p) == -1) <;> simp
set_option maxHeartbeats 4000000 in
theorem windI (G n : Nat) (l : List (Int × Int)) (p : Int × Int) (w : World) (h : StR9 w G n l) (h0 : 0 < n) (h1 : n ≤ 1048000) (hg : ∀ p ∈ l, Near p) (hp : Near p) :
    Calls Try.prog 19 #[.slice (some ⟨G, 0, none⟩) n n, .agg #[.int .i64 p.1, .int .i64 p.2]] w fun e w' => e = .returned (.int .i64 (wiS l p l.length)) ∧ Below w.heap.size w w' := by
  have al0 : Below w.heap.size w (w.alloc (.cells #[.int .i64 p.1, .int .i64 p.2] 25)) := (Below.refl _ _).alloc (Nat.le_refl _) _
  have HS := hide (h.later al0)
  have HN := hide h.len
  have HG := hide hg
  have HP := hide hp
  have KP : Hid ((w.alloc (.cells #[.int .i64 p.1, .int .i64 p.2] 25)).cell? ⟨w.heap.size, 0, none⟩ = some (.int .i64 p.1) ∧ (w.alloc (.cells #[.int .i64 p.1, .int .i64 p.2] 25)).cell? ⟨w.heap.size, 1, none⟩ = some (.int .i64 p.2)) := hide (by simp [go_sem])
  have BA := hide al0
  have lt0 : w.heap.size < (w.alloc (.cells #[.int .i64 p.1, .int .i64 p.2] 25)).heap.size := by simp
  clear h hg hp al0
  go_enter Try.func19, Try.ntmps19
  go_wp2
  generalize w.alloc (.cells #[.int .i64 p.1, .int .i64 p.2] 25) = w0 at *
  go_loopw [5, 10] (fun sv iv wr => ∃ i : Nat, i ≤ n ∧ iv = .int .i64 i ∧ sv = .int .i64 (wiS l p i) ∧ Hid (Below w0.heap.size w0 wr)) (fun _ iv _ => n - (intOf iv).toNat)
  case atStart => exact ⟨0, Nat.zero_le _, rfl, rfl, hide (Below.refl _ _)⟩
  case round =>
    obtain ⟨i, hi, rfl, rfl, HB⟩ := hrel
    by_cases hlt : i < n
    · have hlt' : (i : Int) < (n : Int) := by omega
      have E0 := ((unhide HS).later (unhide HB)).at_ i hlt
      have np := getD_near9 (unhide HG) i
      have nq := unhide HG _ (nxt_mem (l := l) (by rw [unhide HN]; omega) i)
      have p0 : wr.cell? ⟨w.heap.size, 0, none⟩ = some (.int .i64 p.1) := ((unhide HB).cell (p := ⟨w.heap.size, 0, none⟩) lt0).trans (unhide KP).1
      have p1 : wr.cell? ⟨w.heap.size, 1, none⟩ = some (.int .i64 p.2) := ((unhide HB).cell (p := ⟨w.heap.size, 1, none⟩) lt0).trans (unhide KP).2
      have CO := hide (fun w => passI (l.getD i (0, 0)) (nxt l i) p w np nq (unhide HP))
      have HV : Hid (wiS l p (i + 1) = wiS l p i + wiT (l.getD i (0, 0)) (nxt l i) p) := hide rfl
      have bs := wiS_bd l p i
      have bt := wiT_bd (l.getD i (0, 0)) (nxt l i) p
      generalize wiT (l.getD i (0, 0)) (nxt l i) p = t at *
      have EQ := hide hi
      generalize wiS l p i = s0 at *
      generalize nxt l i = y at *
      generalize l.getD i (0, 0) = x at *
      have iw : IntKind.i64.wrap (s0 + t) = s0 + t := by rw [IntKind.wrap_i64]; omega
      clear np nq bs bt
      have EU : stV x y = .iface (stT x y) (.agg #[.int .i64 x.1, .int .i64 x.2, .int .i64 y.1, .int .i64 y.2]) := rfl
      rw [EU] at E0 CO
      clear EU
      generalize stT x y = T at *
      go_wp2_with fail
      refine (unhide CO _).mono ?_
      rintro e w2 ⟨rfl, hb⟩
      have HB1 := hide (below_on (unhide HB) hb)
      clear hb p0 p1 E0 CO
      go_wp2
      go_roundw
      case rel => exact ⟨i + 1, by omega, by go_num, by rw [unhide HV], HB1⟩
      case measure => simp [intOf]; omega
    · obtain rfl : i = n := by omega
      have HT : Hid (wiS l p i = wiS l p l.length) := hide (by rw [unhide HN])
      go_wp2
      go_ret
      exact ⟨by rw [← unhide HT]; rfl, below_on (unhide BA) (unhide HB)⟩
set_option maxHeartbeats 4000000 in
theorem crossI (G n : Nat) (l : List (Int × Int)) (p : Int × Int) (w : World) (h : StR9 w G n l) (h0 : 0 < n) (h1 : n ≤ 1048000) (hg : ∀ p ∈ l, Near p) (hp : Near p) :
    Calls Try.prog 23 #[.slice (some ⟨G, 0, none⟩) n n, .agg #[.int .i64 p.1, .int .i64 p.2]] w fun e w' => e = .returned (.int .i64 (crS l p l.length)) ∧ Below w.heap.size w w' := by
  have al0 : Below w.heap.size w (w.alloc (.cells #[.int .i64 p.1, .int .i64 p.2] 25)) := (Below.refl _ _).alloc (Nat.le_refl _) _
  have HS := hide (h.later al0)
  have HN := hide h.len
  have HG := hide hg
  have HP := hide hp
  have KP : Hid ((w.alloc (.cells #[.int .i64 p.1, .int .i64 p.2] 25)).cell? ⟨w.heap.size, 0, none⟩ = some (.int .i64 p.1) ∧ (w.alloc (.cells #[.int .i64 p.1, .int .i64 p.2] 25)).cell? ⟨w.heap.size, 1, none⟩ = some (.int .i64 p.2)) := hide (by simp [go_sem])
  have BA := hide al0
  have lt0 : w.heap.size < (w.alloc (.cells #[.int .i64 p.1, .int .i64 p.2] 25)).heap.size := by simp
  clear h hg hp al0
  go_enter Try.func23, Try.ntmps23
  go_wp2
  generalize w.alloc (.cells #[.int .i64 p.1, .int .i64 p.2] 25) = w0 at *
  go_loopw [5, 10] (fun sv iv wr => ∃ i : Nat, i ≤ n ∧ iv = .int .i64 i ∧ sv = .int .i64 (crS l p i) ∧ Hid (Below w0.heap.size w0 wr)) (fun _ iv _ => n - (intOf iv).toNat)
  case atStart => exact ⟨0, Nat.zero_le _, rfl, rfl, hide (Below.refl _ _)⟩
  case round =>
    obtain ⟨i, hi, rfl, rfl, HB⟩ := hrel
    by_cases hlt : i < n
    · have hlt' : (i : Int) < (n : Int) := by omega
      have E0 := ((unhide HS).later (unhide HB)).at_ i hlt
      have np := getD_near9 (unhide HG) i
      have nq := unhide HG _ (nxt_mem (l := l) (by rw [unhide HN]; omega) i)
      have p0 : wr.cell? ⟨w.heap.size, 0, none⟩ = some (.int .i64 p.1) := ((unhide HB).cell (p := ⟨w.heap.size, 0, none⟩) lt0).trans (unhide KP).1
      have p1 : wr.cell? ⟨w.heap.size, 1, none⟩ = some (.int .i64 p.2) := ((unhide HB).cell (p := ⟨w.heap.size, 1, none⟩) lt0).trans (unhide KP).2
      have CO := hide (fun w => passI (l.getD i (0, 0)) (nxt l i) p w np nq (unhide HP))
      have HV : Hid (crS l p (i + 1) = crS l p i + crT (l.getD i (0, 0)) (nxt l i) p) := hide rfl
      have bs := crS_bd l p i
      have bt := crT_bd (l.getD i (0, 0)) (nxt l i) p
      have bu := wiT_bd (l.getD i (0, 0)) (nxt l i) p
      have HA := crT_abs (l.getD i (0, 0)) (nxt l i) p
      rw [← HA] at HV bt
      clear HA
      generalize wiT (l.getD i (0, 0)) (nxt l i) p = t at *
      have EQ := hide hi
      generalize crS l p i = s0 at *
      generalize nxt l i = y at *
      generalize l.getD i (0, 0) = x at *
      have CF := hide (fun w => farI t w (by omega) (by omega))
      generalize t.natAbs = q at *
      have iw : IntKind.i64.wrap (s0 + (q : Int)) = s0 + (q : Int) := by rw [IntKind.wrap_i64]; omega
      clear np nq bs bt bu
      have EU : stV x y = .iface (stT x y) (.agg #[.int .i64 x.1, .int .i64 x.2, .int .i64 y.1, .int .i64 y.2]) := rfl
      rw [EU] at E0 CO
      clear EU
      generalize stT x y = T at *
      go_wp2_with fail
      refine (unhide CO _).mono ?_
      rintro e w2 ⟨rfl, hb⟩
      have HB1 := hide (below_on (unhide HB) hb)
      clear hb p0 p1 E0 CO
      go_wp2_with fail
      refine (unhide CF _).mono ?_
      rintro e w3 ⟨rfl, rfl⟩
      clear CF
      go_wp2
      go_roundw
      case rel => exact ⟨i + 1, by omega, by go_num, by rw [unhide HV], HB1⟩
      case measure => simp [intOf]; omega
    · obtain rfl : i = n := by omega
      have HT : Hid (crS l p i = crS l p l.length) := hide (by rw [unhide HN])
      go_wp2
      go_ret
      exact ⟨by rw [← unhide HT]; rfl, below_on (unhide BA) (unhide HB)⟩
set_option maxHeartbeats 4000000 in
theorem OnWayI (a : Option Addr) (n c : Nat) (l : List (Int × Int)) (p : Int × Int) (w : World) (h : ArP w a n c l) (h1 : n ≤ 1048576) :
    Calls Try.prog 9 #[.slice a n c, .agg #[.int .i64 p.1, .int .i64 p.2]] w fun e w' => e = .returned (.tuple #[.bool (ooV l p), .bool (gWP l p)]) ∧ Below w.heap.size w w' := by
  have hn := h.len
  have C1 := hide (fun w (k : SlP w a l) => wayI a n c l w k hn (by unfold maxLen; omega))
  have C2 : Hid (∀ w, Calls Try.prog 26 #[.agg #[.int .i64 p.1, .int .i64 p.2]] w fun e w' => e = .returned (.bool (gPt p)) ∧ Below w.heap.size w w') := hide (fun w => goodPI p.1 p.2 w)
  have HS := hide h.sl
  clear h
  cases hg : gWP l p
  · have EV : ooV l p = false := by unfold ooV; rw [hg]; rfl
    rw [EV]
    clear EV
    have hw : wayB l = true → gPt p = false := fun e => by unfold gWP at hg; rw [e] at hg; exact hg
    clear hg
    cases hy : wayB l
    · rw [hy] at C1
      clear hy hw
      have B0 := hide (show Below w.heap.size w (w.alloc (.cells #[.int .i64 p.1, .int .i64 p.2] 25)) from ((Below.refl _ _).alloc (by simp) _))
      go_enter Try.func9, Try.ntmps9
      go_wp2_with fail
      refine (unhide C1 _ ((unhide HS).later (unhide B0))).mono ?_
      rintro e w1 ⟨rfl, hb⟩
      have HB := hide (below_on (unhide B0) hb)
      clear hb
      go_wp2
      go_ret2
      exact ⟨rfl, unhide HB⟩
    · rw [hy] at C1
      rw [hw hy] at C2
      clear hy hw
      have B0 := hide (show Below w.heap.size w (w.alloc (.cells #[.int .i64 p.1, .int .i64 p.2] 25)) from ((Below.refl _ _).alloc (by simp) _))
      go_enter Try.func9, Try.ntmps9
      go_wp2_with fail
      refine (unhide C1 _ ((unhide HS).later (unhide B0))).mono ?_
      rintro e w1 ⟨rfl, hb⟩
      have k0_0 : w1.cell? ⟨w.heap.size, 0, none⟩ = some (.int .i64 p.1) := cell_later hb (by simp [go_sem])
      have k0_1 : w1.cell? ⟨w.heap.size, 1, none⟩ = some (.int .i64 p.2) := cell_later hb (by simp [go_sem])
      have HB := hide (below_on (unhide B0) hb)
      clear hb
      go_wp2_with fail
      refine (unhide C2 _).mono ?_
      rintro e w2 ⟨rfl, hb⟩
      replace k0_0 := cell_later hb k0_0
      replace k0_1 := cell_later hb k0_1
      replace HB := hide (below_on (unhide HB) hb)
      clear hb
      go_wp2
      go_ret2
      exact ⟨rfl, unhide HB⟩
  · have gp := gWP_parts hg
    have CST := hide (fun w (k : SlP w a l) => stretchesI a n c l w k hn (by omega) (by omega))
    have CO := hide (fun G w (k : StR9 w G n l) => onAnyI G n l p w k (by omega) (by omega) gp.2.1 gp.2.2)
    have hw : wayB l = true ∧ gPt p = true := by unfold gWP at hg; simpa using hg
    rw [hw.1] at C1
    rw [hw.2] at C2
    clear hw
    have EV : ooV l p = onK l p l.length := by unfold ooV; rw [hg]; rfl
    rw [EV]
    clear hg EV gp hn
    generalize onK l p l.length = r at *
    have B0 := hide (show Below w.heap.size w (w.alloc (.cells #[.int .i64 p.1, .int .i64 p.2] 25)) from ((Below.refl _ _).alloc (by simp) _))
    go_enter Try.func9, Try.ntmps9
    go_wp2_with fail
    refine (unhide C1 _ ((unhide HS).later (unhide B0))).mono ?_
    rintro e w1 ⟨rfl, hb⟩
    have k0_0 : w1.cell? ⟨w.heap.size, 0, none⟩ = some (.int .i64 p.1) := cell_later hb (by simp [go_sem])
    have k0_1 : w1.cell? ⟨w.heap.size, 1, none⟩ = some (.int .i64 p.2) := cell_later hb (by simp [go_sem])
    have HB := hide (below_on (unhide B0) hb)
    clear hb
    go_wp2_with fail
    refine (unhide C2 _).mono ?_
    rintro e w2 ⟨rfl, hb⟩
    replace k0_0 := cell_later hb k0_0
    replace k0_1 := cell_later hb k0_1
    replace HB := hide (below_on (unhide HB) hb)
    clear hb
    replace HS := hide ((unhide HS).later (unhide HB))
    go_upto_region 3 with fail
    have HX0 : Hid True := hide trivial
    go_region_held3 (fun w' => w'.cell? ⟨w.heap.size, 0, none⟩ = some (.int .i64 p.1) ∧ w'.cell? ⟨w.heap.size, 1, none⟩ = some (.int .i64 p.2))
      (with_reducible (first | exact ⟨k0_0, k0_1⟩ | exact ⟨cdP k0_0, cdP k0_1⟩ | fail))
      (first
      | (have chk := HX0; go_at_call 28; refine (unhide CST _ ((unhide HS).later (Below.refl _ _).drew)).mono ?_; rintro e w4 ⟨rfl, hb1, st⟩; have hbx := below_of_drew hb1; have ST := hide st; clear st; replace k0_0 := cell_later hbx k0_0; replace k0_1 := cell_later hbx k0_1; replace HS := hide ((unhide HS).later hbx); replace HB := hide (below_on (unhide HB) hbx); clear hb1 hbx; clear HX0 chk; have HX1 : Hid True := hide trivial)
      | (have chk := HX1; go_at_call 27; refine (unhide CO _ _ (unhide ST)).mono ?_; rintro e w5 ⟨rfl, hb1⟩; have hbx := hb1; replace k0_0 := cell_later hbx k0_0; replace k0_1 := cell_later hbx k0_1; replace HS := hide ((unhide HS).later hbx); replace HB := hide (below_on (unhide HB) hbx); clear hb1 hbx; clear HX1 chk)
      | fail)
    go_wp2
    go_ret2
    exact ⟨rfl, unhide HB⟩
set_option maxHeartbeats 4000000 in
theorem besideI (a : Option Addr) (n c : Nat) (l : List (Int × Int)) (p : Int × Int) (w : World) (h : ArP w a n c l) (h1 : n ≤ 1048576) :
    Calls Try.prog 18 #[.slice a n c, .agg #[.int .i64 p.1, .int .i64 p.2]] w fun e w' => ∃ v, e = .returned (.tuple #[v, .bool (offB l p)]) ∧ Below w.heap.size w w' ∧ (offB l p = true → ∃ G, v = .slice (some ⟨G, 0, none⟩) n n ∧ StR9 w' G n l) := by
  have hn := h.len
  have C1 := hide (fun w (k : SlP w a l) => wayI a n c l w k hn (by unfold maxLen; omega))
  have C2 : Hid (∀ w, Calls Try.prog 26 #[.agg #[.int .i64 p.1, .int .i64 p.2]] w fun e w' => e = .returned (.bool (gPt p)) ∧ Below w.heap.size w w') := hide (fun w => goodPI p.1 p.2 w)
  have HS := hide h.sl
  clear h
  cases hg : gWP l p
  · have EO : offB l p = false := by unfold offB; rw [hg]; rfl
    rw [EO]
    clear EO
    have hw : wayB l = true → gPt p = false := fun e => by unfold gWP at hg; rw [e] at hg; exact hg
    clear hg
    cases hy : wayB l
    · rw [hy] at C1
      clear hy hw
      have B0 := hide (show Below w.heap.size w (w.alloc (.cells #[.int .i64 p.1, .int .i64 p.2] 25)) from ((Below.refl _ _).alloc (by simp) _))
      go_enter Try.func18, Try.ntmps18
      go_wp2_with fail
      refine (unhide C1 _ ((unhide HS).later (unhide B0))).mono ?_
      rintro e w1 ⟨rfl, hb⟩
      have HB := hide (below_on (unhide B0) hb)
      clear hb
      go_wp2
      go_ret2
      exact ⟨_, rfl, unhide HB, fun e => by cases e⟩
    · rw [hy] at C1
      rw [hw hy] at C2
      clear hy hw
      have B0 := hide (show Below w.heap.size w (w.alloc (.cells #[.int .i64 p.1, .int .i64 p.2] 25)) from ((Below.refl _ _).alloc (by simp) _))
      go_enter Try.func18, Try.ntmps18
      go_wp2_with fail
      refine (unhide C1 _ ((unhide HS).later (unhide B0))).mono ?_
      rintro e w1 ⟨rfl, hb⟩
      have k0_0 : w1.cell? ⟨w.heap.size, 0, none⟩ = some (.int .i64 p.1) := cell_later hb (by simp [go_sem])
      have k0_1 : w1.cell? ⟨w.heap.size, 1, none⟩ = some (.int .i64 p.2) := cell_later hb (by simp [go_sem])
      have HB := hide (below_on (unhide B0) hb)
      clear hb
      go_wp2_with fail
      refine (unhide C2 _).mono ?_
      rintro e w2 ⟨rfl, hb⟩
      replace k0_0 := cell_later hb k0_0
      replace k0_1 := cell_later hb k0_1
      replace HB := hide (below_on (unhide HB) hb)
      clear hb
      go_wp2
      go_ret2
      exact ⟨_, rfl, unhide HB, fun e => by cases e⟩
  · have gp := gWP_parts hg
    have CST := hide (fun w (k : SlP w a l) => stretchesI a n c l w k hn (by omega) (by omega))
    have CO := hide (fun G w (k : StR9 w G n l) => onAnyI G n l p w k (by omega) (by omega) gp.2.1 gp.2.2)
    have hw : wayB l = true ∧ gPt p = true := by unfold gWP at hg; simpa using hg
    rw [hw.1] at C1
    rw [hw.2] at C2
    clear hw
    cases hq : onK l p l.length
    · skip
      have EO : offB l p = true := by unfold offB; rw [hg, hq]; rfl
      rw [EO]
      rw [hq] at CO
      clear hg hq EO gp hn
      have B0 := hide (show Below w.heap.size w (w.alloc (.cells #[.int .i64 p.1, .int .i64 p.2] 25)) from ((Below.refl _ _).alloc (by simp) _))
      go_enter Try.func18, Try.ntmps18
      go_wp2_with fail
      refine (unhide C1 _ ((unhide HS).later (unhide B0))).mono ?_
      rintro e w1 ⟨rfl, hb⟩
      have k0_0 : w1.cell? ⟨w.heap.size, 0, none⟩ = some (.int .i64 p.1) := cell_later hb (by simp [go_sem])
      have k0_1 : w1.cell? ⟨w.heap.size, 1, none⟩ = some (.int .i64 p.2) := cell_later hb (by simp [go_sem])
      have HB := hide (below_on (unhide B0) hb)
      clear hb
      go_wp2_with fail
      refine (unhide C2 _).mono ?_
      rintro e w2 ⟨rfl, hb⟩
      replace k0_0 := cell_later hb k0_0
      replace k0_1 := cell_later hb k0_1
      replace HB := hide (below_on (unhide HB) hb)
      clear hb
      go_wp2_with fail
      refine (unhide CST _ ((unhide HS).later (unhide HB))).mono ?_
      rintro e w3 ⟨rfl, hb, st⟩
      replace k0_0 := cell_later hb k0_0
      replace k0_1 := cell_later hb k0_1
      replace HB := hide (below_on (unhide HB) hb)
      have ST := hide st
      clear hb st
      generalize w2.heap.size = G at *
      go_wp2_with fail
      refine (unhide CO _ _ (unhide ST)).mono ?_
      rintro e w4 ⟨rfl, hb⟩
      replace ST := hide ((unhide ST).later hb)
      replace HB := hide (below_on (unhide HB) hb)
      clear hb k0_0 k0_1
      go_wp2
      go_ret2
      exact ⟨_, rfl, unhide HB, fun e => ⟨G, rfl, unhide ST⟩⟩
    · skip
      have EO : offB l p = false := by unfold offB; rw [hg, hq]; rfl
      rw [EO]
      rw [hq] at CO
      clear hg hq EO gp hn
      have B0 := hide (show Below w.heap.size w (w.alloc (.cells #[.int .i64 p.1, .int .i64 p.2] 25)) from ((Below.refl _ _).alloc (by simp) _))
      go_enter Try.func18, Try.ntmps18
      go_wp2_with fail
      refine (unhide C1 _ ((unhide HS).later (unhide B0))).mono ?_
      rintro e w1 ⟨rfl, hb⟩
      have k0_0 : w1.cell? ⟨w.heap.size, 0, none⟩ = some (.int .i64 p.1) := cell_later hb (by simp [go_sem])
      have k0_1 : w1.cell? ⟨w.heap.size, 1, none⟩ = some (.int .i64 p.2) := cell_later hb (by simp [go_sem])
      have HB := hide (below_on (unhide B0) hb)
      clear hb
      go_wp2_with fail
      refine (unhide C2 _).mono ?_
      rintro e w2 ⟨rfl, hb⟩
      replace k0_0 := cell_later hb k0_0
      replace k0_1 := cell_later hb k0_1
      replace HB := hide (below_on (unhide HB) hb)
      clear hb
      go_wp2_with fail
      refine (unhide CST _ ((unhide HS).later (unhide HB))).mono ?_
      rintro e w3 ⟨rfl, hb, st⟩
      replace k0_0 := cell_later hb k0_0
      replace k0_1 := cell_later hb k0_1
      replace HB := hide (below_on (unhide HB) hb)
      have ST := hide st
      clear hb st
      generalize w2.heap.size = G at *
      go_wp2_with fail
      refine (unhide CO _ _ (unhide ST)).mono ?_
      rintro e w4 ⟨rfl, hb⟩
      replace ST := hide ((unhide ST).later hb)
      replace HB := hide (below_on (unhide HB) hb)
      clear hb k0_0 k0_1
      go_wp2
      go_ret2
      exact ⟨_, rfl, unhide HB, fun e => by cases e⟩
set_option maxHeartbeats 4000000 in
theorem WindingAtI (a : Option Addr) (n c : Nat) (l : List (Int × Int)) (p : Int × Int) (w : World) (h : ArP w a n c l) (h1 : n ≤ 1048576) :
    Calls Try.prog 5 #[.slice a n c, .agg #[.int .i64 p.1, .int .i64 p.2]] w fun e w' => e = .returned (.tuple #[.int .i64 (wnV l p), .bool (offB l p)]) ∧ Below w.heap.size w w' := by
  have hn := h.len
  have C1 := hide (fun w (k : ArP w a n c l) => besideI a n c l p w k h1)
  have HS := hide h
  clear h
  cases hg : offB l p
  · have EV : (Value.int .i64 (wnV l p)) = .int .i64 0 := by unfold wnV; rw [hg]; rfl
    rw [EV]
    rw [hg] at C1
    clear hg EV
    have B0 := hide (show Below w.heap.size w (w.alloc (.cells #[.int .i64 p.1, .int .i64 p.2] 25)) from ((Below.refl _ _).alloc (by simp) _))
    go_enter Try.func5, Try.ntmps5
    go_wp2_with fail
    refine (unhide C1 _ ((unhide HS).later (unhide B0))).mono ?_
    rintro e w1 ⟨v, rfl, hb, -⟩
    have HB := hide (below_on (unhide B0) hb)
    clear hb
    go_wp2
    go_ret2
    exact ⟨rfl, unhide HB⟩
  · have gp := gWP_parts (show gWP l p = true by unfold offB at hg; simp at hg; exact hg.1)
    have C2 := hide (fun G w (k : StR9 w G n l) => windI G n l p w k (by omega) (by omega) gp.2.1 gp.2.2)
    have bw := wiS_bd l p l.length
    have bc := crS_bd l p l.length
    rw [hg] at C1
    have EV : wnV l p = wiS l p l.length := by unfold wnV; rw [hg]; rfl
    rw [EV]
    clear hg EV gp hn bw bc
    generalize wiS l p l.length = r at *
    have B0 := hide (show Below w.heap.size w (w.alloc (.cells #[.int .i64 p.1, .int .i64 p.2] 25)) from ((Below.refl _ _).alloc (by simp) _))
    go_enter Try.func5, Try.ntmps5
    go_wp2_with fail
    refine (unhide C1 _ ((unhide HS).later (unhide B0))).mono ?_
    rintro e w1 ⟨v, rfl, hb, hv⟩
    obtain ⟨G, rfl, st⟩ := hv (by first | trivial | rfl)
    have ST := hide st
    clear hv st
    have k0_0 : w1.cell? ⟨w.heap.size, 0, none⟩ = some (.int .i64 p.1) := cell_later hb (by simp [go_sem])
    have k0_1 : w1.cell? ⟨w.heap.size, 1, none⟩ = some (.int .i64 p.2) := cell_later hb (by simp [go_sem])
    have HB := hide (below_on (unhide B0) hb)
    clear hb
    go_wp2_with fail
    refine (unhide C2 _ _ (unhide ST)).mono ?_
    rintro e w2 ⟨rfl, hb⟩
    replace HB := hide (below_on (unhide HB) hb)
    clear hb k0_0 k0_1
    go_wp2
    go_ret2
    exact ⟨rfl, unhide HB⟩
set_option maxHeartbeats 4000000 in
theorem CrossingsAtI (a : Option Addr) (n c : Nat) (l : List (Int × Int)) (p : Int × Int) (w : World) (h : ArP w a n c l) (h1 : n ≤ 1048576) :
    Calls Try.prog 7 #[.slice a n c, .agg #[.int .i64 p.1, .int .i64 p.2]] w fun e w' => e = .returned (.tuple #[.int .i64 (crV l p), .bool (offB l p)]) ∧ Below w.heap.size w w' := by
  have hn := h.len
  have C1 := hide (fun w (k : ArP w a n c l) => besideI a n c l p w k h1)
  have HS := hide h
  clear h
  cases hg : offB l p
  · have EV : (Value.int .i64 (crV l p)) = .int .i64 0 := by unfold crV; rw [hg]; rfl
    rw [EV]
    rw [hg] at C1
    clear hg EV
    have B0 := hide (show Below w.heap.size w (w.alloc (.cells #[.int .i64 p.1, .int .i64 p.2] 25)) from ((Below.refl _ _).alloc (by simp) _))
    go_enter Try.func7, Try.ntmps7
    go_wp2_with fail
    refine (unhide C1 _ ((unhide HS).later (unhide B0))).mono ?_
    rintro e w1 ⟨v, rfl, hb, -⟩
    have HB := hide (below_on (unhide B0) hb)
    clear hb
    go_wp2
    go_ret2
    exact ⟨rfl, unhide HB⟩
  · have gp := gWP_parts (show gWP l p = true by unfold offB at hg; simp at hg; exact hg.1)
    have C3 := hide (fun G w (k : StR9 w G n l) => crossI G n l p w k (by omega) (by omega) gp.2.1 gp.2.2)
    have bw := wiS_bd l p l.length
    have bc := crS_bd l p l.length
    rw [hg] at C1
    have EV : crV l p = crS l p l.length := by unfold crV; rw [hg]; rfl
    rw [EV]
    clear hg EV gp hn bw bc
    generalize crS l p l.length = r at *
    have B0 := hide (show Below w.heap.size w (w.alloc (.cells #[.int .i64 p.1, .int .i64 p.2] 25)) from ((Below.refl _ _).alloc (by simp) _))
    go_enter Try.func7, Try.ntmps7
    go_wp2_with fail
    refine (unhide C1 _ ((unhide HS).later (unhide B0))).mono ?_
    rintro e w1 ⟨v, rfl, hb, hv⟩
    obtain ⟨G, rfl, st⟩ := hv (by first | trivial | rfl)
    have ST := hide st
    clear hv st
    have k0_0 : w1.cell? ⟨w.heap.size, 0, none⟩ = some (.int .i64 p.1) := cell_later hb (by simp [go_sem])
    have k0_1 : w1.cell? ⟨w.heap.size, 1, none⟩ = some (.int .i64 p.2) := cell_later hb (by simp [go_sem])
    have HB := hide (below_on (unhide B0) hb)
    clear hb
    go_wp2_with fail
    refine (unhide C3 _ _ (unhide ST)).mono ?_
    rintro e w2 ⟨rfl, hb⟩
    replace HB := hide (below_on (unhide HB) hb)
    clear hb k0_0 k0_1
    go_wp2
    go_ret2
    exact ⟨rfl, unhide HB⟩
set_option maxHeartbeats 4000000 in
theorem InsideI (a : Option Addr) (n c : Nat) (l : List (Int × Int)) (p : Int × Int) (ev : Bool) (w : World) (h : ArP w a n c l) (h1 : n ≤ 1048576) :
    Calls Try.prog 15 #[.slice a n c, .agg #[.int .i64 p.1, .int .i64 p.2], .bool ev] w fun e w' => e = .returned (.tuple #[.bool (inV l p ev), .bool (offB l p)]) ∧ Below w.heap.size w w' := by
  have hn := h.len
  have C1 := hide (fun w (k : ArP w a n c l) => besideI a n c l p w k h1)
  have HS := hide h
  clear h
  cases hg : offB l p
  · have EV : (Value.bool (inV l p ev)) = .bool false := by unfold inV; rw [hg]; rfl
    rw [EV]
    rw [hg] at C1
    clear hg EV
    have B0 := hide (show Below w.heap.size w (w.alloc (.cells #[.int .i64 p.1, .int .i64 p.2] 25)) from ((Below.refl _ _).alloc (by simp) _))
    go_enter Try.func15, Try.ntmps15
    go_wp2_with fail
    refine (unhide C1 _ ((unhide HS).later (unhide B0))).mono ?_
    rintro e w1 ⟨v, rfl, hb, -⟩
    have HB := hide (below_on (unhide B0) hb)
    clear hb
    go_wp2
    go_ret2
    exact ⟨rfl, unhide HB⟩
  · have gp := gWP_parts (show gWP l p = true by unfold offB at hg; simp at hg; exact hg.1)
    have C2 := hide (fun G w (k : StR9 w G n l) => windI G n l p w k (by omega) (by omega) gp.2.1 gp.2.2)
    have C3 := hide (fun G w (k : StR9 w G n l) => crossI G n l p w k (by omega) (by omega) gp.2.1 gp.2.2)
    have bw := wiS_bd l p l.length
    have bc := crS_bd l p l.length
    rw [hg] at C1
    cases ev
    · have EV : inV l p false = (wiS l p l.length != 0) := by unfold inV; rw [hg]; rfl
      rw [EV]
      clear hg EV gp hn bc bw
      generalize wiS l p l.length = r at *
      have B0 := hide (show Below w.heap.size w (w.alloc (.cells #[.int .i64 p.1, .int .i64 p.2] 25)) from ((Below.refl _ _).alloc (by simp) _))
      go_enter Try.func15, Try.ntmps15
      go_wp2_with fail
      refine (unhide C1 _ ((unhide HS).later (unhide B0))).mono ?_
      rintro e w1 ⟨v, rfl, hb, hv⟩
      obtain ⟨G, rfl, st⟩ := hv (by first | trivial | rfl)
      have ST := hide st
      clear hv st
      have k0_0 : w1.cell? ⟨w.heap.size, 0, none⟩ = some (.int .i64 p.1) := cell_later hb (by simp [go_sem])
      have k0_1 : w1.cell? ⟨w.heap.size, 1, none⟩ = some (.int .i64 p.2) := cell_later hb (by simp [go_sem])
      have HB := hide (below_on (unhide B0) hb)
      clear hb
      go_wp2_with fail
      refine (unhide C2 _ _ (unhide ST)).mono ?_
      rintro e w2 ⟨rfl, hb⟩
      replace HB := hide (below_on (unhide HB) hb)
      clear hb k0_0 k0_1
      go_wp2
      go_ret2
      exact ⟨rfl, unhide HB⟩
    · have EV : inV l p true = ((crS l p l.length).tmod 2 == 1) := by unfold inV; rw [hg]; rfl
      rw [EV]
      clear hg EV gp bw
      generalize crS l p l.length = r at *
      have m1 : IntKind.i64.wrap (r.tmod 2) = r.tmod 2 := by rw [IntKind.wrap_i64, Int.tmod_eq_emod_of_nonneg (by omega)]; omega
      clear hn bc
      have B0 := hide (show Below w.heap.size w (w.alloc (.cells #[.int .i64 p.1, .int .i64 p.2] 25)) from ((Below.refl _ _).alloc (by simp) _))
      go_enter Try.func15, Try.ntmps15
      go_wp2_with fail
      refine (unhide C1 _ ((unhide HS).later (unhide B0))).mono ?_
      rintro e w1 ⟨v, rfl, hb, hv⟩
      obtain ⟨G, rfl, st⟩ := hv (by first | trivial | rfl)
      have ST := hide st
      clear hv st
      have k0_0 : w1.cell? ⟨w.heap.size, 0, none⟩ = some (.int .i64 p.1) := cell_later hb (by simp [go_sem])
      have k0_1 : w1.cell? ⟨w.heap.size, 1, none⟩ = some (.int .i64 p.2) := cell_later hb (by simp [go_sem])
      have HB := hide (below_on (unhide B0) hb)
      clear hb
      go_wp2_with fail
      refine (unhide C3 _ _ (unhide ST)).mono ?_
      rintro e w2 ⟨rfl, hb⟩
      replace HB := hide (below_on (unhide HB) hb)
      clear hb k0_0 k0_1
      go_wp2
      go_ret2
      exact ⟨rfl, unhide HB⟩
end Go.Proofs.Yteconjkjpalomaa

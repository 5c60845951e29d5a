/- Chapter 8 of the program: segments that meet amiss. No condition beyond those typed. Written by mksim8.py. -/
import Derived.Test.YtomekmhonfofkaaGreatMap8
namespace Go.Proofs.YtomekmhonfofkaaGreat
open Go.RowKit
set_option linter.unusedVariables false
set_option maxRecDepth 100000
set_option linter.unusedSimpArgs false

theorem ne_pt {a b : Int × Int} (h : ¬ a = b) : ((a.1 == b.1) = false) ∨ ((a.1 == b.1) = true ∧ (a.2 == b.2) = false) := by
  by_cases h1 : a.1 = b.1
  · right
    refine ⟨by simp [h1], ?_⟩
    by_cases h2 : a.2 = b.2
    · exact absurd (Prod.ext h1 h2) h
    · simp [h2]
  · left
    simp [h1]
theorem eq_pt {a b : Int × Int} (h : a = b) : (a.1 == b.1) = true ∧ (a.2 == b.2) = true := by subst h; simp
/-- Whether two segments of a way meet where they should not. -/
def amV (a b c d : Int × Int) : Bool := if b = c then onV a b d || onV c d a else if d = a then onV c d b || onV a b c else meV a b c d
set_option maxHeartbeats 4000000 in
theorem amissI (a b c d : Int × Int) (w : World) (ha : Near a) (hb : Near b) (hc : Near c) (hd : Near d) :
    Calls Tryz.prog 73 #[.agg #[.int .i64 a.1, .int .i64 a.2, .int .i64 b.1, .int .i64 b.2], .agg #[.int .i64 c.1, .int .i64 c.2, .int .i64 d.1, .int .i64 d.2]] w fun e w' => e = .returned (.bool (amV a b c d)) ∧ Below w.heap.size w w' := by
  have C1 := hide (fun w => nextAgainI a b c d w ha hb hc hd)
  have C2 := hide (fun w => nextAgainI c d a b w hc hd ha hb)
  have C3 := hide (fun w => meetsI a b c d w ha hb hc hd)
  clear ha hb hc hd
  by_cases h1 : b = c
  · have e1 : amV a b c d = (onV a b d || onV c d a) := by unfold amV; rw [if_pos h1]
    rw [e1]
    generalize (onV a b d || onV c d a) = x at *
    clear e1 C2 C3
    have q1 : (b.1 == c.1) = true := by rw [h1]; simp
    have q2 : (b.2 == c.2) = true := by rw [h1]; simp
    clear h1
    have B0 := hide (show Below w.heap.size w ((w.alloc (.cells #[.int .i64 a.1, .int .i64 a.2, .int .i64 b.1, .int .i64 b.2] 94)).alloc (.cells #[.int .i64 c.1, .int .i64 c.2, .int .i64 d.1, .int .i64 d.2] 94)) from (((Below.refl _ _).alloc (by simp) _).alloc (by simp) _))
    go_enter Tryz.func73, Tryz.ntmps73
    go_wp2_with fail
    refine (unhide C1 _).mono ?_
    rintro e w1 ⟨rfl, hb⟩
    have HB := hide (below_on (unhide B0) hb)
    clear hb
    go_wp2_with fail
    go_ret
    exact ⟨rfl, unhide HB⟩
  · rcases ne_pt h1 with q1 | ⟨q1, q2⟩
    · by_cases h2 : d = a
      · have e1 : amV a b c d = (onV c d b || onV a b c) := by unfold amV; rw [if_neg h1, if_pos h2]
        rw [e1]
        generalize (onV c d b || onV a b c) = x at *
        obtain ⟨r1, r2⟩ := eq_pt h2
        clear e1 C1 C3 h1 h2
        have B0 := hide (show Below w.heap.size w ((w.alloc (.cells #[.int .i64 a.1, .int .i64 a.2, .int .i64 b.1, .int .i64 b.2] 94)).alloc (.cells #[.int .i64 c.1, .int .i64 c.2, .int .i64 d.1, .int .i64 d.2] 94)) from (((Below.refl _ _).alloc (by simp) _).alloc (by simp) _))
        go_enter Tryz.func73, Tryz.ntmps73
        go_wp2_with fail
        refine (unhide C2 _).mono ?_
        rintro e w1 ⟨rfl, hb⟩
        have HB := hide (below_on (unhide B0) hb)
        clear hb
        go_wp2_with fail
        go_ret
        exact ⟨rfl, unhide HB⟩
      · have e1 : amV a b c d = meV a b c d := by unfold amV; rw [if_neg h1, if_neg h2]
        rw [e1]
        generalize meV a b c d = x at *
        clear e1 C1 C2 h1
        rcases ne_pt h2 with r1 | ⟨r1, r2⟩
        · clear h2
          have B0 := hide (show Below w.heap.size w ((w.alloc (.cells #[.int .i64 a.1, .int .i64 a.2, .int .i64 b.1, .int .i64 b.2] 94)).alloc (.cells #[.int .i64 c.1, .int .i64 c.2, .int .i64 d.1, .int .i64 d.2] 94)) from (((Below.refl _ _).alloc (by simp) _).alloc (by simp) _))
          go_enter Tryz.func73, Tryz.ntmps73
          go_wp2_with fail
          refine (unhide C3 _).mono ?_
          rintro e w1 ⟨rfl, hb⟩
          have HB := hide (below_on (unhide B0) hb)
          clear hb
          go_wp2_with fail
          go_ret
          exact ⟨rfl, unhide HB⟩
        · clear h2
          have B0 := hide (show Below w.heap.size w ((w.alloc (.cells #[.int .i64 a.1, .int .i64 a.2, .int .i64 b.1, .int .i64 b.2] 94)).alloc (.cells #[.int .i64 c.1, .int .i64 c.2, .int .i64 d.1, .int .i64 d.2] 94)) from (((Below.refl _ _).alloc (by simp) _).alloc (by simp) _))
          go_enter Tryz.func73, Tryz.ntmps73
          go_wp2_with fail
          refine (unhide C3 _).mono ?_
          rintro e w1 ⟨rfl, hb⟩
          have HB := hide (below_on (unhide B0) hb)
          clear hb
          go_wp2_with fail
          go_ret
          exact ⟨rfl, unhide HB⟩
    · by_cases h2 : d = a
      · have e1 : amV a b c d = (onV c d b || onV a b c) := by unfold amV; rw [if_neg h1, if_pos h2]
        rw [e1]
        generalize (onV c d b || onV a b c) = x at *
        obtain ⟨r1, r2⟩ := eq_pt h2
        clear e1 C1 C3 h1 h2
        have B0 := hide (show Below w.heap.size w ((w.alloc (.cells #[.int .i64 a.1, .int .i64 a.2, .int .i64 b.1, .int .i64 b.2] 94)).alloc (.cells #[.int .i64 c.1, .int .i64 c.2, .int .i64 d.1, .int .i64 d.2] 94)) from (((Below.refl _ _).alloc (by simp) _).alloc (by simp) _))
        go_enter Tryz.func73, Tryz.ntmps73
        go_wp2_with fail
        refine (unhide C2 _).mono ?_
        rintro e w1 ⟨rfl, hb⟩
        have HB := hide (below_on (unhide B0) hb)
        clear hb
        go_wp2_with fail
        go_ret
        exact ⟨rfl, unhide HB⟩
      · have e1 : amV a b c d = meV a b c d := by unfold amV; rw [if_neg h1, if_neg h2]
        rw [e1]
        generalize meV a b c d = x at *
        clear e1 C1 C2 h1
        rcases ne_pt h2 with r1 | ⟨r1, r2⟩
        · clear h2
          have B0 := hide (show Below w.heap.size w ((w.alloc (.cells #[.int .i64 a.1, .int .i64 a.2, .int .i64 b.1, .int .i64 b.2] 94)).alloc (.cells #[.int .i64 c.1, .int .i64 c.2, .int .i64 d.1, .int .i64 d.2] 94)) from (((Below.refl _ _).alloc (by simp) _).alloc (by simp) _))
          go_enter Tryz.func73, Tryz.ntmps73
          go_wp2_with fail
          refine (unhide C3 _).mono ?_
          rintro e w1 ⟨rfl, hb⟩
          have HB := hide (below_on (unhide B0) hb)
          clear hb
          go_wp2_with fail
          go_ret
          exact ⟨rfl, unhide HB⟩
        · clear h2
          have B0 := hide (show Below w.heap.size w ((w.alloc (.cells #[.int .i64 a.1, .int .i64 a.2, .int .i64 b.1, .int .i64 b.2] 94)).alloc (.cells #[.int .i64 c.1, .int .i64 c.2, .int .i64 d.1, .int .i64 d.2] 94)) from (((Below.refl _ _).alloc (by simp) _).alloc (by simp) _))
          go_enter Tryz.func73, Tryz.ntmps73
          go_wp2_with fail
          refine (unhide C3 _).mono ?_
          rintro e w1 ⟨rfl, hb⟩
          have HB := hide (below_on (unhide B0) hb)
          clear hb
          go_wp2_with fail
          go_ret
          exact ⟨rfl, unhide HB⟩
/-- Whether two corners are alike. -/
def Alike (l : List (Int × Int)) : Prop := ∃ i j, i < j ∧ j < l.length ∧ l.getD i (0, 0) = l.getD j (0, 0)
noncomputable def alB (l : List (Int × Int)) : Bool := @decide (Alike l) (Classical.propDecidable _)
theorem alB_true {l : List (Int × Int)} (h : Alike l) : alB l = true := by unfold alB; exact @decide_eq_true _ (Classical.propDecidable _) h
theorem alB_false {l : List (Int × Int)} (h : ¬ Alike l) : alB l = false := by unfold alB; exact @decide_eq_false _ (Classical.propDecidable _) h
set_option maxHeartbeats 8000000 in
theorem alikeI (a : Option Addr) (n c : Nat) (l : List (Int × Int)) (w : World) (h : SlP w a l) (hn : l.length = n) (h1 : n ≤ 1048576) (hg : ∀ p ∈ l, Near p) :
    Calls Tryz.prog 71 #[.slice a n c] w fun e w' => e = .returned (.bool (alB l)) ∧ Below w.heap.size w w' := by
  have HS := hide h
  have HN := hide hn
  have HG := hide hg
  clear h hn hg
  have hmm := fun w => make8 (n : Int) w
  go_enter Tryz.func71, Tryz.ntmps71
  go_wp2
  clear hmm
  go_loopw [11] (fun iv wr => ∃ k : Nat, k ≤ n ∧ iv = .int .i64 k ∧ Hid (wr.heap[w.heap.size]? = some (.map (mpE l k).toArray k)) ∧ Hid (∀ i j, i < k → j < k → l.getD i (0, 0) = l.getD j (0, 0) → i = j) ∧ Hid (Below w.heap.size w wr)) (fun iv _ => n - (intOf iv).toNat)
  case atStart => exact ⟨0, Nat.zero_le _, rfl, hide (by show (w.heap.push _)[w.heap.size]? = _; simp [mpE]), hide (fun i j hi => absurd hi (by omega)), hide ((Below.refl _ _).alloc (Nat.le_refl _) _)⟩
  case round =>
    obtain ⟨k, hk, rfl, EM, HD, HB⟩ := hrel
    by_cases hlt : k < n
    · have hlt' : (k : Int) < (n : Int) := by omega
      rcases (unhide HS) with e | ⟨b, off, rfl, hb, hc⟩
      · exact absurd (unhide HN) (by rw [e]; simp; omega)
      have e0 := hc k (by rw [unhide HN]; exact hlt)
      rw [← getD_gt (by rw [unhide HN]; exact hlt)] at e0
      obtain ⟨p, hpe⟩ : ∃ p, l.getD k (0, 0) = p := ⟨_, rfl⟩
      rw [hpe] at e0
      have E0 : wr.cell? ⟨b, off + k * 2, none⟩ = some (.int .i64 p.1) := ((unhide HB).cell (p := ⟨b, off + k * 2, none⟩) hb).trans (e0.1)
      have E1 : wr.cell? ⟨b, off + k * 2 + 1, none⟩ = some (.int .i64 p.2) := ((unhide HB).cell (p := ⟨b, off + k * 2 + 1, none⟩) hb).trans (e0.2)
      clear e0 hc
      have lw : w.heap.size < wr.heap.size := (Array.getElem?_eq_some_iff.1 (unhide EM)).1
      have hb2 : (wr.alloc (.cells #[.int .i64 p.1, .int .i64 p.2] 37)).heap[w.heap.size]? = some (.map (mpE l k).toArray k) := by
        have e1 := unhide EM
        simp only [World.alloc]
        rw [Array.getElem?_push, if_neg (by omega)]
        exact e1
      have k0 : (wr.alloc (.cells #[.int .i64 p.1, .int .i64 p.2] 37)).cell? ⟨wr.heap.size, 0, none⟩ = some (.int .i64 p.1) := by simp [go_sem]
      have k1 : (wr.alloc (.cells #[.int .i64 p.1, .int .i64 p.2] 37)).cell? ⟨wr.heap.size, 1, none⟩ = some (.int .i64 p.2) := by simp [go_sem]
      have al : Below w.heap.size w (wr.alloc (.cells #[.int .i64 p.1, .int .i64 p.2] 37)) := (unhide HB).alloc (by omega) _
      have AL := hide al
      have sz := al.size
      obtain ⟨v, st, w4, w5, r1, r2, r3, r4, r5, but, cas⟩ := round8 (w := (wr.alloc (.cells #[.int .i64 p.1, .int .i64 p.2] 37)).drew) hb2 (unhide HG) (unhide HD)
      rw [hpe] at r1 r2 r3 r5 cas
      have HR := hide cas
      have PE := hide hpe
      clear hpe
      have nb : wr.heap.size ≠ w.heap.size := by omega
      have q0 : w5.cell? ⟨wr.heap.size, 0, none⟩ = some (.int .i64 p.1) := but.cell (show (wr.alloc (.cells #[.int .i64 p.1, .int .i64 p.2] 37)).drew.cell? _ = _ from k0) (.inr (by omega))
      have q1 : w5.cell? ⟨wr.heap.size, 1, none⟩ = some (.int .i64 p.2) := but.cell (show (wr.alloc (.cells #[.int .i64 p.1, .int .i64 p.2] 37)).drew.cell? _ = _ from k1) (.inr (by omega))
      have B5 := hide (but.below (unhide AL).drew (Nat.le_refl _) (by simp; omega))
      have TD : Hid (∀ i j, i < k → j < k → l.getD i (0, 0) = l.getD j (0, 0) → i = j) := HD
      unfold keyV at r1 r2 r3 r5
      clear but al hb2 sz EM HD HS
      go_upto_region 5 with fail
      clear E0 E1
      generalize wr.alloc (.cells #[.int .i64 p.1, .int .i64 p.2] 37) = w2 at *
      clear cas
      rcases (unhide HR) with ⟨rfl, hne, h5⟩ | ⟨rfl, hex⟩
      · rw [Int.zero_add] at r4 r5
        have NE := hide hne
        have H5 := hide h5
        clear AL HB HR hne h5
        go_region
        all_goals clear r1 r2 r3 r4 k0 k1
        all_goals go_wp2
        all_goals go_roundw
        case rel =>
          refine ⟨k + 1, by omega, by go_num, H5, hide ?_, B5⟩
          intro i j hi hj he
          by_cases hik : i = k
          · by_cases hjk : j = k
            · omega
            · subst hik
              exact absurd (he.symm.trans (unhide PE)) (unhide NE j (by omega))
          · by_cases hjk : j = k
            · subst hjk
              exact absurd (he.trans (unhide PE)) (unhide NE i (by omega))
            · exact unhide TD i j (by omega) (by omega) he
        case measure => simp [intOf]; omega
      · rw [show (1 : Int) + 1 = 2 by rfl] at r4 r5
        have EX : Hid (alB l = true) := hide (alB_true (by
          obtain ⟨i, hi, he⟩ := hex
          exact ⟨i, k, hi, by rw [unhide HN]; exact hlt, he.trans (unhide PE).symm⟩))
        clear AL HB HR hex
        go_region
        all_goals clear r1 r2 r3 r4 k0 k1
        all_goals go_wp2
        all_goals go_ret
        all_goals exact ⟨by rw [unhide EX]; rfl, unhide B5⟩
    · obtain rfl : k = n := by omega
      have EA : Hid (alB l = false) := hide (alB_false (by
        rintro ⟨i, j, hij, hj, he⟩
        rw [unhide HN] at hj
        have := unhide HD i j (by omega) hj he
        omega))
      go_wp2
      go_ret
      exact ⟨by rw [unhide EA]; rfl, unhide HB⟩
/-- No two segments of the way meet amiss. -/
def NoAm (l : List (Int × Int)) (m : Nat) : Prop := ∀ i, i < m → ∀ j, j < i → amV (l.getD i (0, 0)) (nxt l i) (l.getD j (0, 0)) (nxt l j) = false
noncomputable def siI (l : List (Int × Int)) : Bool := !alB l && @decide (NoAm l l.length) (Classical.propDecidable _)
theorem siI_al {l : List (Int × Int)} (h : alB l = true) : siI l = false := by unfold siI; rw [h]; rfl
theorem siI_true {l : List (Int × Int)} (h : alB l = false) (k : NoAm l l.length) : siI l = true := by unfold siI; rw [h]; exact @decide_eq_true _ (Classical.propDecidable _) k
theorem siI_false {l : List (Int × Int)} (k : ¬ NoAm l l.length) : siI l = false := by unfold siI; rw [@decide_eq_false _ (Classical.propDecidable _) k]; simp
set_option maxHeartbeats 8000000 in
theorem simpleI (a : Option Addr) (n c : Nat) (l : List (Int × Int)) (w : World) (h : SlP w a l) (hn : l.length = n) (h0 : 0 < n) (h1 : n ≤ 1048576) (hg : ∀ p ∈ l, Near p) :
    Calls Tryz.prog 48 #[.slice a n c] w fun e w' => e = .returned (.bool (siI l)) ∧ Below w.heap.size w w' := by
  have CA := hide (alikeI a n c l w h hn h1 hg)
  have CS := hide (fun w (k : SlP w a l) => segsI a n c l w k hn h0 h1)
  have HS := hide h
  have HN := hide hn
  have HG := hide hg
  clear h hn hg
  cases hal : alB l
  · rw [hal] at CA
    have HAL := hide hal
    clear hal
    go_enter Tryz.func48, Tryz.ntmps48
    go_wp2_with fail
    refine (unhide CA).mono ?_
    rintro e w1 ⟨rfl, hb⟩
    have HB := hide hb
    replace HS := hide ((unhide HS).later hb)
    clear hb CA
    go_wp2_with fail
    refine (unhide CS _ (unhide HS)).mono ?_
    rintro e w2 ⟨rfl, hb, sg⟩
    replace HB := hide (below_on (unhide HB) hb)
    have SG := hide sg
    have lt1 := sg.lt
    clear hb sg CS HS
    go_wp2
    go_loopw [14] (fun iv wr => ∃ i : Nat, i ≤ n ∧ iv = .int .i64 i ∧ Hid (NoAm l i) ∧ Hid (Below w2.heap.size w2 wr)) (fun iv _ => n - (intOf iv).toNat)
    case atStart => exact ⟨0, Nat.zero_le _, rfl, hide (fun i hi => absurd hi (by omega)), hide (Below.refl _ _)⟩
    case round =>
      obtain ⟨i, hi, rfl, HA, HR⟩ := hrel
      by_cases hlt : i < n
      · have hlt' : (i : Int) < (n : Int) := by omega
        have hle' : (i : Int) ≤ (n : Int) := by omega
        have e0 := ((unhide SG).later (unhide HR)).at_ i hlt
        have np := getD_near (unhide HG) i
        have nq := unhide HG _ (nxt_mem (by rw [unhide HN]; omega) i)
        obtain ⟨wo, hwo⟩ : ∃ x, x = wr := ⟨_, rfl⟩
        subst hwo
        obtain ⟨p, hpe⟩ : ∃ p, l.getD i (0, 0) = p := ⟨_, rfl⟩
        obtain ⟨q, hqe⟩ : ∃ q, nxt l i = q := ⟨_, rfl⟩
        rw [hpe] at e0 np
        rw [hqe] at e0 nq
        have PE := hide (And.intro hpe hqe)
        have NPQ := hide (And.intro np nq)
        have E0 := e0.1
        have E1 := e0.2.1
        have E2 := e0.2.2.1
        have E3 := e0.2.2.2
        clear e0 np nq hpe hqe
        have al : Below wo.heap.size wo (wo.alloc (.cells #[.int .i64 p.1, .int .i64 p.2, .int .i64 q.1, .int .i64 q.2] 94)) := (Below.refl _ _).alloc (Nat.le_refl _) _
        have k0 : (wo.alloc (.cells #[.int .i64 p.1, .int .i64 p.2, .int .i64 q.1, .int .i64 q.2] 94)).cell? ⟨wo.heap.size, 0, none⟩ = some (.int .i64 p.1) := by simp [go_sem]
        have k1 : (wo.alloc (.cells #[.int .i64 p.1, .int .i64 p.2, .int .i64 q.1, .int .i64 q.2] 94)).cell? ⟨wo.heap.size, 1, none⟩ = some (.int .i64 p.2) := by simp [go_sem]
        have k2 : (wo.alloc (.cells #[.int .i64 p.1, .int .i64 p.2, .int .i64 q.1, .int .i64 q.2] 94)).cell? ⟨wo.heap.size, 2, none⟩ = some (.int .i64 q.1) := by simp [go_sem]
        have k3 : (wo.alloc (.cells #[.int .i64 p.1, .int .i64 p.2, .int .i64 q.1, .int .i64 q.2] 94)).cell? ⟨wo.heap.size, 3, none⟩ = some (.int .i64 q.2) := by simp [go_sem]
        have ltb : wo.heap.size < (wo.alloc (.cells #[.int .i64 p.1, .int .i64 p.2, .int .i64 q.1, .int .i64 q.2] 94)).heap.size := by simp
        have HRA := hide (below_on (unhide HR) al)
        have KK := hide (And.intro k0 (And.intro k1 (And.intro k2 k3)))
        clear al
        go_upto_region 7 with fail
        clear E0 E1 E2 E3 k0 k1 k2 k3 HR
        generalize wo.alloc (.cells #[.int .i64 p.1, .int .i64 p.2, .int .i64 q.1, .int .i64 q.2] 94) = w3 at *
        go_wp2
        go_loopw [23] (fun jv wr => ∃ j : Nat, j ≤ i ∧ jv = .int .i64 j ∧ Hid (∀ j', j' < j → amV (l.getD i (0, 0)) (nxt l i) (l.getD j' (0, 0)) (nxt l j') = false) ∧ Hid (Below w3.heap.size w3 wr)) (fun jv _ => i - (intOf jv).toNat)
        case atStart => exact ⟨0, Nat.zero_le _, rfl, hide (fun j hj => absurd hj (by omega)), hide (Below.refl _ _)⟩
        case round =>
          obtain ⟨j, hj, rfl, HJ, HR⟩ := hrel
          by_cases hjl : j < i
          · have hjl' : (j : Int) < (i : Int) := by omega
            have HRR := hide (below_on (unhide HRA) (unhide HR))
            have e0 := ((unhide SG).later (unhide HRR)).at_ j (by omega)
            have nr := getD_near (unhide HG) j
            have ns := unhide HG _ (nxt_mem (by rw [unhide HN]; omega) j)
            have CM := hide (fun w => amissI p q (l.getD j (0, 0)) (nxt l j) w (unhide NPQ).1 (unhide NPQ).2 nr ns)
            have HV : Hid (amV (l.getD i (0, 0)) (nxt l i) (l.getD j (0, 0)) (nxt l j) = amV p q (l.getD j (0, 0)) (nxt l j)) := hide (by rw [(unhide PE).1, (unhide PE).2])
            generalize amV p q (l.getD j (0, 0)) (nxt l j) = v at *
            clear nr ns
            obtain ⟨r, hre⟩ : ∃ r, l.getD j (0, 0) = r := ⟨_, rfl⟩
            obtain ⟨s, hse⟩ : ∃ s, nxt l j = s := ⟨_, rfl⟩
            rw [hre, hse] at e0 CM
            clear hre hse
            have E0 := e0.1
            have E1 := e0.2.1
            have E2 := e0.2.2.1
            have E3 := e0.2.2.2
            have k0 := (unhide HR).cell (p := ⟨wo.heap.size, 0, none⟩) ltb |>.trans (unhide KK).1
            have k1 := (unhide HR).cell (p := ⟨wo.heap.size, 1, none⟩) ltb |>.trans (unhide KK).2.1
            have k2 := (unhide HR).cell (p := ⟨wo.heap.size, 2, none⟩) ltb |>.trans (unhide KK).2.2.1
            have k3 := (unhide HR).cell (p := ⟨wo.heap.size, 3, none⟩) ltb |>.trans (unhide KK).2.2.2
            have lto : wo.heap.size < wr.heap.size := World.block_lt_of_cell? _ _ k0
            have al : Below wr.heap.size wr (wr.alloc (.cells #[.int .i64 r.1, .int .i64 r.2, .int .i64 s.1, .int .i64 s.2] 94)) := (Below.refl _ _).alloc (Nat.le_refl _) _
            replace k0 := cell_later al k0
            replace k1 := cell_later al k1
            replace k2 := cell_later al k2
            replace k3 := cell_later al k3
            have m0 : (wr.alloc (.cells #[.int .i64 r.1, .int .i64 r.2, .int .i64 s.1, .int .i64 s.2] 94)).cell? ⟨wr.heap.size, 0, none⟩ = some (.int .i64 r.1) := by simp [go_sem]
            have m1 : (wr.alloc (.cells #[.int .i64 r.1, .int .i64 r.2, .int .i64 s.1, .int .i64 s.2] 94)).cell? ⟨wr.heap.size, 1, none⟩ = some (.int .i64 r.2) := by simp [go_sem]
            have m2 : (wr.alloc (.cells #[.int .i64 r.1, .int .i64 r.2, .int .i64 s.1, .int .i64 s.2] 94)).cell? ⟨wr.heap.size, 2, none⟩ = some (.int .i64 s.1) := by simp [go_sem]
            have m3 : (wr.alloc (.cells #[.int .i64 r.1, .int .i64 r.2, .int .i64 s.1, .int .i64 s.2] 94)).cell? ⟨wr.heap.size, 3, none⟩ = some (.int .i64 s.2) := by simp [go_sem]
            have HR1 := hide (below_on (unhide HR) al)
            have HRR1 := hide (below_on (unhide HRR) al)
            clear e0 al
            go_upto_region 10 with fail
            clear E0 E1 E2 E3 HR HRR
            generalize wr.alloc (.cells #[.int .i64 r.1, .int .i64 r.2, .int .i64 s.1, .int .i64 s.2] 94) = w4 at *
            cases v
            · go_wp2_with fail
              refine (unhide CM _).mono ?_
              rintro e w5 ⟨rfl, hb⟩
              have HR2 := hide (below_on (unhide HR1) hb)
              clear hb k0 k1 k2 k3 m0 m1 m2 m3
              go_wp2
              go_roundw
              case rel =>
                refine ⟨j + 1, by omega, by go_num, hide ?_, HR2⟩
                intro j' hj'
                by_cases e : j' = j
                · subst e; exact unhide HV
                · exact unhide HJ j' (by omega)
              case measure => simp [intOf]; omega
            · have HF : Hid (siI l = false) := hide (siI_false (fun k => by have := k i (by rw [unhide HN]; exact hlt) j hjl; rw [unhide HV] at this; cases this))
              go_wp2_with fail
              refine (unhide CM _).mono ?_
              rintro e w5 ⟨rfl, hb⟩
              have HR2 := hide (below_on (unhide HRR1) hb)
              clear hb k0 k1 k2 k3 m0 m1 m2 m3
              go_wp2
              go_ret
              exact ⟨by rw [unhide HF]; rfl, below_on (unhide HB) (unhide HR2)⟩
          · obtain rfl : j = i := by omega
            have HRR := hide (below_on (unhide HRA) (unhide HR))
            go_wp2
            go_roundw
            case rel =>
              refine ⟨j + 1, by omega, by go_num, hide ?_, HRR⟩
              intro i' hi' j' hj'
              by_cases e : i' = j
              · subst e; exact unhide HJ j' hj'
              · exact unhide HA i' (by omega) j' hj'
            case measure => simp [intOf]; omega
      · obtain rfl : i = n := by omega
        have HT : Hid (siI l = true) := hide (siI_true (unhide HAL) (by rw [unhide HN]; exact unhide HA))
        go_wp2
        go_ret
        exact ⟨by rw [unhide HT]; rfl, below_on (unhide HB) (unhide HR)⟩
  · rw [hal] at CA
    have HF := hide (siI_al hal)
    clear hal
    go_enter Tryz.func48, Tryz.ntmps48
    go_wp2_with fail
    refine (unhide CA).mono ?_
    rintro e w1 ⟨rfl, hb⟩
    go_wp2_with fail
    go_ret
    exact ⟨by rw [unhide HF]; rfl, hb⟩
end Go.Proofs.YtomekmhonfofkaaGreat
